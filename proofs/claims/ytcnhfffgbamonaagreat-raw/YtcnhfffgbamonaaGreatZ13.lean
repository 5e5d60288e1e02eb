import Derived.Lib.QuietBelow
import Derived.Test.YtcnhfffgbamonaaGreatZ12
set_option maxRecDepth 100000
set_option maxHeartbeats 6400000
namespace Go.Proofs.YtcnhfffgbamonaaGreat
open Go.Proofs.Tryz
open Go.RowKit
structure JA where
 sa:Option Addr
 sc:Nat
 aa:Option Addr
 ac:Nat
 ba:Option Addr
 bc:Nat
 wa:Option Addr
 wc:Nat
 ia:Option Addr
 ic:Nat
structure Jm(w:World)(b:Nat)(j:O.J)(A:JA):Prop where
 af:w.cell? ⟨b,0,none⟩=some (.int .i64 j.op.af)
 size:w.cell? ⟨b,6,none⟩=some (.int .i64 j.op.size)
 aE:w.cell? ⟨b,7,none⟩=some (.int .i64 j.op.aE)
 bM:w.cell? ⟨b,9,none⟩=some (.slice A.sa j.op.bM.length A.sc)
 lo:w.cell? ⟨b,10,none⟩=some (.int .i64 j.op.lo)
 hi:w.cell? ⟨b,11,none⟩=some (.int .i64 j.op.hi)
 aT:w.cell? ⟨b,12,none⟩=some (.int .i64 j.op.aT)
 left:w.cell? ⟨b,14,none⟩=some (.int .i64 j.op.left)
 a:Gr w b 16 j.a A.aa A.ac
 bb:Gr w b 21 j.b A.ba A.bc
 ws:Gr w b 26 j.aP A.wa A.wc
 bi:Gr w b 31 j.bC A.ia A.ic
 Ye:w.cell? ⟨b,36,none⟩=some (.int .i64 j.dM.af)
 mv:∃ao n c,w.cell? ⟨b,41,none⟩=some (.slice ao n c)
 mh:w.cell? ⟨b,37,none⟩=some (.int .i64 j.dM.h)
 mw:w.cell? ⟨b,38,none⟩=some (.int .i64 j.dM.w)
 mc:w.cell? ⟨b,39,none⟩=some (.int .i64 j.dM.c)
 mz:w.cell? ⟨b,40,none⟩=some (.int .i64 j.dM.zero)
 sl:gF w 0 (.slice A.sa j.op.bM.length A.sc) j.op.bM
theorem aG{w w':World}(hg:w.grownBy w' none){a:Addr}{v:Value}(h:w.cell? a=some v):w'.cell? a=some v:=by
 rw[World.cell?_of_block (hg.block a.block (ql w _ h) (by simp))];exact h
theorem Gr.kept{w w':World}{b q:Nat}{g:O.G}{ao:Option Addr}{c:Nat}(h:Gr w b q g ao c)(hg:w.grownBy w' none):Gr w' b q g ao c:=
 ⟨aG hg h.gh,aG hg h.gw,aG hg h.gc,aG hg h.gz,aG hg h.gv,h.gl.Z hg⟩
theorem Jm.kept{w w':World}{b:Nat}{j:O.J}{A:JA}(h:Jm w b j A)(hg:w.grownBy w' none):Jm w' b j A:=
 ⟨aG hg h.af,aG hg h.size,aG hg h.aE,aG hg h.bM,aG hg h.lo,aG hg h.hi,aG hg h.aT,aG hg h.left,
  h.a.kept hg,h.bb.kept hg,h.ws.kept hg,h.bi.kept hg,aG hg h.Ye,h.mv.elim fun ao x=>x.elim fun n y=>y.elim fun c z=>⟨ao,n,c,aG hg z⟩,aG hg h.mh,aG hg h.mw,aG hg h.mc,aG hg h.mz,eY h.sl hg⟩
theorem Jm.drewN{w:World}{b:Nat}{j:O.J}{A:JA}(h:Jm w b j A)(n:Nat):Jm (w.drewN n) b j A:=h.kept (bE _ _ _)
theorem Ni(b:Nat)(j:O.J)(A:JA)(x:Int)(w:World)(hJ:Jm w b j A) :
  Calls prog 157 #[.pointer (some ⟨b,0,none⟩),.int .i64 x] w fun e w'=>e=.returned (.int .i64 (O.uk j x))/\∃n,w'=w.drewN n:=by
 have d0:=hJ.lo;have d1:=hJ.hi;clear hJ;go_enter func157,ntmps157;go_wp2;go_quiet (first|(go_at_call 180;refine mU (Ya x j.op.lo j.op.hi _)));go_wp2;go_ret;exact⟨rfl,_,rfl⟩
theorem alb{j:O.J}{x:Int}{k:Nat}{c:M.Sc}(h:j.op.bM[k]?=some c):O.jD j x k=O.iN x c:=by
 unfold O.jD;rw[h]
theorem RD(b:Nat)(j:O.J)(A:JA)(x:Int)(k:Nat)(w:World)(hJ:Jm w b j A)(hj:O.kx j)(hk:k<j.op.bM.length)(hx:-2147483648<=x/\x<=2147483647)(_hl:j.op.bM.length<=3) :
  Calls prog 177 #[.pointer (some ⟨b,0,none⟩),.int .i64 x,.int .i64 k] w fun e w'=>e=.returned (.int .i64 (O.jD j x k))/\w.grownBy w' none:=by
 have d0:=hJ.bM;obtain⟨c,hc⟩:∃c,j.op.bM[k]?=some c:=⟨_,aS hk⟩;obtain⟨g,e,gQ,d1,d2⟩:=gF.get hJ.sl k c hc;obtain⟨m0,m1,s0,s1⟩:=hj.bM c (bU hc);have He:=ae (alb (x:=x) hc);rw[e] at d0;clear hc hJ e hj;go_enter func177,ntmps177;go_wp2_with fail;refine(ak8 x c _ hx m0 m1 s0 s1).mono ?_;rintro e w1⟨rfl,aH⟩;go_wp2;go_ret;exact⟨cH He.out.symm,aH⟩
theorem RE(b:Nat)(j:O.J)(A:JA)(x:Int)(k:Nat)(w:World)(hJ:Jm w b j A)(hj:O.kx j)(hk:k<j.op.bM.length)(hx:-2147483648<=x/\x<=2147483647)(hl:j.op.bM.length<=3) :
  Calls prog 176 #[.pointer (some ⟨b,0,none⟩),.int .i64 x,.int .i64 k] w fun e w'=>e=.returned (.int .i64 (O.out j x k))/\w.grownBy w' none:=by
 have hs:=hj.jD x k;have z0:=hj.z.z0;have z1:=hj.z.z1;have He:=ae (show O.out j x k=O.uk j (O.jD j x k+j.dM.zero) from rfl);have HJ:=ae hJ;have Hj:=ae hj;clear hJ hj;go_enter func176,ntmps176;go_wp2_with fail;refine(RD b j A x k _ HJ.out Hj.out hk hx hl).mono ?_;rintro e w1⟨rfl,aH⟩;have d0:=(HJ.out.kept aH).mz;have HJ1:=ae (HJ.out.kept aH);clear HJ;generalize O.jD j x k=s at *;obtain⟨s0,s1⟩:=hs;go_wp2_with fail;refine(Ni b j A (s+j.dM.zero) _ HJ1.out).mono ?_;rintro e w2⟨rfl,n2,rfl⟩;go_wp2;go_ret;exact⟨cH He.out.symm,aC aH (bE _ _ _)⟩
theorem ald(b:Nat)(j:O.J)(A:JA)(y x k:Int)(w:World)(hJ:Jm w b j A)(hj:O.kx j)(hl:j.op.bM.length=3) :
  Calls prog 154 #[.pointer (some ⟨b,0,none⟩),.int .i64 y,.int .i64 x,.int .i64 k] w fun e w'=>e=.returned (.int .i64 (O.add j y x k))/\w.grownBy w' none:=by
 have hv:=hj.a.at y x k;have hw:=hj.b.at y x k;obtain⟨az0,az1⟩:=And.intro hj.a.z0 hj.a.z1;obtain⟨bz0,bz1⟩:=And.intro hj.b.z0 hj.b.z1;have r1:=hj.jD ((O.bN j.a y x k-j.a.zero)*1048576) 0;have r2:=hj.jD ((O.bN j.b y x k-j.b.zero)*1048576) 1;have r3:=O.BX (O.jD j ((O.bN j.a y x k-j.a.zero)*1048576) 0+O.jD j ((O.bN j.b y x k-j.b.zero)*1048576) 1);have He:=ae (show O.add j y x k=O.out j (O.held (O.jD j ((O.bN j.a y x k-j.a.zero)*1048576) 0+O.jD j ((O.bN j.b y x k-j.b.zero)*1048576) 1)) 2 from rfl);have HJ:=ae hJ;have Hj:=ae hj;clear hJ hj;go_enter func154,ntmps154;go_wp2_with fail;refine(yT b 16 j.a A.aa A.ac y x k _ HJ.out.a Hj.out.a.len Hj.out.a.h1 Hj.out.a.w1 Hj.out.a.c1).mono ?_;rintro e w1⟨rfl,n1,rfl⟩;go_wp2_with fail;refine(yT b 21 j.b A.ba A.bc y x k _ (HJ.out.bb.drewN _) Hj.out.b.len Hj.out.b.h1 Hj.out.b.w1 Hj.out.b.c1).mono ?_;rintro e w1⟨rfl,n2,rfl⟩;generalize O.bN j.a y x k=v at *;generalize O.bN j.b y x k=u at *;have d0:=HJ.out.a.gz;have d1:=HJ.out.bb.gz;obtain⟨v0,v1⟩:=hv;obtain⟨u0,u1⟩:=hw;go_wp2_with fail;refine(RD b j A ((v-j.a.zero)*1048576) 0 _ (HJ.out.drewN _) Hj.out (by omega) (by omega) (by omega)).mono ?_;rintro e w3⟨rfl,aU⟩;have qX:=ae ((HJ.out.drewN (n1+n2)).kept aU);have fR:=ae (aC (bE w (n1+n2) none) aU);clear HJ aU d0 d1;have d1:=qX.out.bb.gz;go_wp2_with fail;refine(RD b j A ((u-j.b.zero)*1048576) 1 _ qX.out Hj.out (by omega) (by omega) (by omega)).mono ?_;rintro e w4⟨rfl,bm⟩;have Je:=ae (qX.out.kept bm);have fC:=ae (aC fR.out bm);clear qX fR bm d1;generalize O.jD j ((v-j.a.zero)*1048576) 0=p at *;generalize O.jD j ((u-j.b.zero)*1048576) 1=q at *;obtain⟨p0,p1⟩:=r1;obtain⟨q0,q1⟩:=r2;go_wp2_with fail;refine(Jd (p+q) _).mono ?_;rintro e w5⟨rfl,rfl⟩;generalize O.held (p+q)=s at *;go_wp2_with fail
 refine(RE b j A s 2 _ Je.out Hj.out (by omega) r3 (by omega)).mono ?_;rintro e w6⟨rfl,fE⟩;have kI:=ae (aC fC.out fE);clear fE;go_wp2;go_ret;exact⟨cH He.out.symm,kI.out⟩
theorem Nj(j:O.J)(o:Int):O.kE j o 0=O.jZ j.bC o:=by unfold O.kE D.S;omega
theorem ale{j:O.J}{o:Int}{k:Nat}{v:Int}(h:j.a.cells[k]?=some v):O.kE j o (k+1)=O.kE j o k+(v-j.a.zero)*O.bN j.aP o 0 k:=by
 unfold O.kE;rw[D.S,List.getD,h];simp only[Option.getD_some];omega
theorem alf(b:Nat)(j:O.J)(A:JA)(o:Int)(w:World)(hJ:Jm w b j A)(hj:O.kx j)(hl:j.op.bM.length=1) :
  Calls prog 153 #[.pointer (some ⟨b,0,none⟩),.int .i64 o] w fun e w'=>e=.returned (.int .i64 (O.MK j o))/\w.grownBy w' none:=by
 have HJ:=ae hJ;have Hj:=ae hj;have He:=ae (show O.MK j o=O.out j (O.kE j o j.a.cells.length) 0 from rfl);have iX:=hj.a.len;have H0:=ae (Nj j o);clear hJ hj;go_enter func153,ntmps153;go_wp2_with fail;refine(Nh b 31 j.bC A.ia A.ic o _ HJ.out.bi Hj.out.bi.len).mono ?_;rintro e w1⟨rfl,rfl⟩;have d0:=HJ.out.a.gv;go_wp2;go_loopw[5,20] (fun s i wr=>∃k:Nat,k<=j.a.cells.length/\i=.int .i64 k/\s=.int .i64 (O.kE j o k)/\∃n,wr=w1.drewN n) (fun _ i _=>j.a.cells.length-(intOf i).toNat)
 case atStart=>exact⟨0,bK _,rfl,by rw[H0.out],0,rfl⟩
 case round=>
  obtain⟨k,hk,rfl,rfl,n,rfl⟩:=hrel;have hs:=Hj.out.all o (n:=k) (by omega) hk;by_cases aJ:k<j.a.cells.length
  ·obtain⟨v,hv⟩:∃v,j.a.cells[k]?=some v:=⟨_,aS aJ⟩
   obtain⟨g,off,eg,gQ,d1⟩:=HJ.out.a.gl.get k v hv;have qi:=Hj.out.all o (n:=k+1) (by omega) (by omega);have fm:=ae (ale (o:=o) hv);have Cn:=Hj.out.a.cells v (bU hv);obtain⟨z0,z1⟩:=And.intro Hj.out.a.z0 Hj.out.a.z1;have hw:=Hj.out.w.at o 0 k;have hp:=O.yS Cn ⟨z0,z1⟩ hw;have d2:=HJ.out.a.gz;rw[eg];clear hv;generalize O.kE j o k=s at *;obtain⟨u,U⟩:∃u,Hid (O.bN j.aP o 0 k=u):=⟨_,rfl⟩;rw[U.out] at hw hp fm;obtain⟨p0,p1⟩:=hp;obtain⟨q0,q1⟩:=hs;obtain⟨v0,v1⟩:=Cn;go_wp2_with fail;refine(yT b 26 j.aP A.wa A.wc o 0 k _ (HJ.out.ws.drewN _) Hj.out.w.len Hj.out.w.h1 Hj.out.w.w1 Hj.out.w.c1).mono ?_;rintro e w2⟨rfl,n2,rfl⟩;rw[U.out];go_wp2;go_roundw
   case rel=>exact⟨k+1,by omega,by go_num,by rw[fm.out],_,rfl⟩
   case measure=>simp[intOf];omega
  ·obtain rfl:k=j.a.cells.length:=by omega
   clear H0;generalize O.kE j o j.a.cells.length=s at *;go_wp2_with fail;refine(RE b j A s 0 _ (HJ.out.drewN _) Hj.out (by omega) (by omega) (by omega)).mono ?_;rintro e w2⟨rfl,aM⟩;have HG:=ae (aC (bE w1 n none) aM);clear aM;go_wp2;go_ret;exact⟨cH He.out.symm,HG.out⟩
theorem Yf{lR dP n length aE:Int}(a0:0<=lR)(a1:lR<=255)(b0:0<=dP)(b1:dP<=255)(n0:0<=n)(n1:n<=255)(l0:0<=length)(l1:length<=255)(s0:0<=aE)(s1:aE<=255) :
  -100000<=O.iZ lR dP n length aE/\O.iZ lR dP n length aE<=100000:=by
 have m1:=O.kR (a:=dP-1) (b:=aE) (A:=255) (B:=255) (by omega) (by omega);have m2:=O.kR (a:=lR) (b:=aE) (A:=255) (B:=255) (by omega) (by omega);unfold O.iZ
 split<;>omega
theorem alg(j:O.J)(u v o shift first:Int)(n:Nat):O.part j u v o shift first n 0 0 0=O.jZ j.bC o:=by
 unfold O.part;simp only[D.S];omega
theorem alh(j:O.J)(y x o first shift:Int)(n:Nat):O.vI j y x o first (first+n) shift=O.out j (O.part j (O.um j y) (O.left j x) o shift first n j.aP.h.toNat 0 0) 0:=by
 unfold O.vI O.Ar;rw[show(first+(n:Int)-first).toNat=n by omega]
theorem ali(b:Nat)(j:O.J)(A:JA)(y x o first shift:Int)(n:Nat)(w:World)(hJ:Jm w b j A)(hj:O.kx j)(hl:j.op.bM.length=1)(y0:0<=y)(y1:y<=255)(x0:0<=x)(x1:x<=255)
  (f0:0<=first) (f1:first<=255) (n1:n<=255) (h0:0<=shift) (h1:shift<=65025) (hs:j.aP.h*j.aP.w*n<=512) :
  Calls prog 152 #[.pointer (some ⟨b,0,none⟩),.int .i64 y,.int .i64 x,.int .i64 o,.int .i64 first,.int .i64 (first+n),.int .i64 shift] w fun e w'=>e=.returned (.int .i64 (O.vI j y x o first (first+n) shift))/\w.grownBy w' none:=by
 have D3:=hj.vI y x o first (first+n) shift (by rw[show first+(n:Int)-first=n by omega];exact hs) (by omega);have d0:=hJ.mh;have d1:=hJ.ws.gh;have d2:=hJ.a.gh;have d3:=hJ.aE;have HJ:=ae hJ;have Hj:=ae hj;have B1:=ae (fun(W:World)=>Yc y j.dM.h j.aP.h j.a.h j.op.aE W y0 y1 (by have:=hj.z.h0;omega) hj.z.h1 hj.w.h0 hj.w.h1 hj.a.h0 hj.a.h1 hj.dQ.aE.1 hj.dQ.aE.2);have B2:=ae (fun(W:World)=>Yc x j.dM.w j.aP.w j.a.w j.op.aE W x0 x1 (by have:=hj.z.w0;omega) hj.z.w1 hj.w.w0 hj.w.w1 hj.a.w0 hj.a.w1 hj.dQ.aE.1 hj.dQ.aE.2);have R1:=Yf y0 y1 (show 0<=j.dM.h by have:=hj.z.h0;omega) hj.z.h1 hj.w.h0 hj.w.h1 hj.a.h0 hj.a.h1 hj.dQ.aE.1 hj.dQ.aE.2;have R2:=Yf x0 x1 (show 0<=j.dM.w by have:=hj.z.w0;omega) hj.z.w1 hj.w.w0 hj.w.w1 hj.a.w0 hj.a.w1 hj.dQ.aE.1 hj.dQ.aE.2;have He:=ae (alh j y x o first shift n);have HS:=ae (show O.Ar j y x o first (first+n) shift=O.part j (O.um j y) (O.left j x) o shift first n j.aP.h.toNat 0 0 by unfold O.Ar;rw[show(first+(n:Int)-first).toNat=n by omega]);have eT:O.um j y=O.iZ y j.dM.h j.aP.h j.a.h j.op.aE:=rfl;have eL:O.left j x=O.iZ x j.dM.w j.aP.w j.a.w j.op.aE:=rfl;rw[eT,eL] at He HS;clear hJ hj hs eT eL y0 y1 x0 x1;go_enter func152,ntmps152;go_wp2;go_quiet (first|(go_at_call 175;refine mU (B1.out _)));have xG:=ae (HJ.out.drewN nq);have dU:=ae (bE w nq none);clear d0 d1 d2 d3 HJ B1;generalize O.iZ y j.dM.h j.aP.h j.a.h j.op.aE=u at *;generalize w.drewN nq=w2 at *;have d3:=xG.out.aE;have d4:=xG.out.mw;have d5:=xG.out.ws.gw;have d6:=xG.out.a.gw;go_wp2;go_quiet (first|(go_at_call 175;refine mU (B2.out _)));have qX:=ae (xG.out.drewN nq);have fR:=ae (aC dU.out (bE w2 nq none));clear d3 d4 d5 d6 xG dU B2;generalize O.iZ x j.dM.w j.aP.w j.a.w j.op.aE=v at *;generalize w2.drewN nq=w3 at *;go_wp2_with fail
 refine(Nh b 31 j.bC A.ia A.ic o _ qX.out.bi Hj.out.bi.len).mono ?_;rintro e w1⟨rfl,rfl⟩;obtain⟨u0,u1⟩:=R1;obtain⟨v0,v1⟩:=R2;obtain⟨H,hH⟩:∃H:Nat,j.aP.h=H:=⟨j.aP.h.toNat,(uw Hj.out.w.h0).symm⟩;obtain⟨W,hW⟩:∃W:Nat,j.aP.w=W:=⟨j.aP.w.toNat,(uw Hj.out.w.w0).symm⟩;have H1:H<=255:=by have:=Hj.out.w.h1;omega
 have W1:W<=255:=by have:=Hj.out.w.w1;omega
 have d1:=qX.out.ws.gh;have d5:=qX.out.ws.gw;have d7:=qX.out.a.gz;rw[hH] at d1 He HS;rw[hW] at d5;rw[eC] at He HS;have HWt:=ae (show j.aP.w.toNat=W by omega);rw[HS.out] at D3;clear hH hW HS;obtain⟨z0,z1⟩:=And.intro Hj.out.a.z0 Hj.out.a.z1;have P0:=ae (alg j u v o shift first n);go_wp2;go_loopw[17,18] (fun s i wr=>∃k:Nat,k<=H/\i=.int .i64 k/\s=.int .i64 (O.part j u v o shift first n k 0 0)/\∃m,wr=w1.drewN m) (fun _ i _=>H-(intOf i).toNat)
 case atStart=>exact⟨0,bK _,rfl,by rw[P0.out],0,rfl⟩
 case round=>
  obtain⟨i,hi,rfl,rfl,m,rfl⟩:=hrel;by_cases aJ:i<H
  ·clear D3
   go_wp2;go_loopw[17,19] (fun s q wr=>∃p:Nat,p<=W/\q=.int .i64 p/\s=.int .i64 (O.part j u v o shift first n i p 0)/\∃m,wr=w1.drewN m) (fun _ q _=>W-(intOf q).toNat)
   case atStart=>exact⟨0,bK _,rfl,rfl,m,rfl⟩
   case round=>
    obtain⟨p,hp,rfl,rfl,m,rfl⟩:=hrel;by_cases lk:p<W
    ·go_wp2
     go_loopw[17,20] (fun s q wr=>∃k:Nat,k<=n/\q=.int .i64 (first+k)/\s=.int .i64 (O.part j u v o shift first n i p k)/\∃m,wr=w1.drewN m) (fun _ q _=>n-(intOf q-first).toNat)
     case atStart=>exact⟨0,bK _,by go_num,rfl,m,rfl⟩
     case round=>
      obtain⟨k,hk,rfl,rfl,m,rfl⟩:=hrel;by_cases qn:k<n
      ·have fm:=ae (O.akv j u v o shift first n i p k)
       have hb:=Hj.out.part u v o shift first n1 (i:=i) (p:=p) (k:=k) (by omega) (by omega) (by omega);have hv:=Hj.out.a.at (u+i) (v+p) (first+k);have hw:=Hj.out.w.at i p (shift+(first+k));have hpr:=O.yS hv ⟨z0,z1⟩ hw;have HT:=ae (show O.iO j u v shift first i p k=(O.bN j.a (u+i) (v+p) (first+k)-j.a.zero)*O.bN j.aP i p (shift+(first+k)) from rfl);rw[HT.out] at fm;clear HT;go_wp2_with fail;refine(yT b 16 j.a A.aa A.ac (u+i) (v+p) (first+k) _ (qX.out.a.drewN _) Hj.out.a.len Hj.out.a.h1 Hj.out.a.w1 Hj.out.a.c1).mono ?_;rintro e w4⟨rfl,m4,rfl⟩;generalize O.bN j.a (u+i) (v+p) (first+k)=c at *;go_wp2_with fail;refine(yT b 26 j.aP A.wa A.wc i p (shift+(first+k)) _ (qX.out.ws.drewN _) Hj.out.w.len Hj.out.w.h1 Hj.out.w.w1 Hj.out.w.c1).mono ?_;rintro e w5⟨rfl,m5,rfl⟩;generalize O.bN j.aP i p (shift+(first+k))=d at *;generalize O.part j u v o shift first n i p k=s at *;obtain⟨c0,c1⟩:=hv;obtain⟨e0,e1⟩:=hpr;obtain⟨g0,g1⟩:=hb;go_wp2;go_roundw
       case rel=>exact⟨k+1,by omega,by go_num,by rw[fm.out],_,rfl⟩
       case measure=>simp[intOf];omega
      ·obtain rfl:k=n:=by omega
       have fm:=ae (O.akw j u v o shift first k i p);rw[<-fm.out];go_wp2;go_roundw
       case rel=>exact⟨p+1,by omega,by go_num,rfl,_,rfl⟩
       case measure=>simp[intOf];omega
    ·obtain rfl:p=W:=by omega
     have fm:=ae (O.akx j u v o shift first n i);rw[HWt.out] at fm;rw[<-fm.out];go_wp2;go_roundw
     case rel=>exact⟨i+1,by omega,by go_num,rfl,_,rfl⟩
     case measure=>simp[intOf];omega
  ·obtain rfl:i=H:=by omega
   generalize O.part j u v o shift first n i 0 0=s at *;go_wp2_with fail;refine(RE b j A s 0 _ (qX.out.drewN _) Hj.out (by omega) (by omega) (by omega)).mono ?_;rintro e w4⟨rfl,bm⟩;have fC:=ae (aC (aC fR.out (bE w1 m none)) bm);clear bm;go_wp2;go_ret;exact⟨cH He.out.symm,fC.out⟩
theorem alm{j:O.J}{y x k:Int}{N i p:Nat}(hN:j.op.size=N)(hp:p<N):O.iY j y x k (i*N+p)=O.bN j.a (y*j.op.aE+i) (x*j.op.aE+p) k:=by
 unfold O.iY;rw[hN];have e1:(((i*N+p:Nat):Int))/(N:Int)=i:=by
  rw[<-Int.natCast_ediv,Nat.add_comm,Nat.add_mul_div_right _ _ (by omega),Nat.div_eq_of_lt hp];simp
 have e2:(((i*N+p:Nat):Int))%(N:Int)=p:=by
  rw[<-Int.natCast_emod,Nat.add_comm,Nat.add_mul_mod_self_right,Nat.mod_eq_of_lt hp]
 rw[e1,e2]
theorem Yg{f:Nat->Int}(h:∀i,-128<=f i/\f i<=127)(n:Nat):-128<=O.oW f n/\O.oW f n<=127:=by
 induction n with
 | zero=>unfold O.oW;omega
 | succ n ih=>unfold O.oW;have:=h n;split<;>omega
theorem aln{j:O.J}{y x k:Int}{N:Nat}(hN:j.op.size=N)(hk:j.op.af=5):O.As j y x k=O.uk j (O.oW (O.iY j y x k) (N*N)):=by
 unfold O.As;rw[ay hk,hN,<-Int.natCast_mul,eC]
theorem alo{j:O.J}{y x k:Int}{N:Nat}(hN:j.op.size=N)(hk:¬j.op.af=5):O.As j y x k=O.uk j (O.oV (D.S (O.iY j y x k) (N*N)) ((N:Int)*N)):=by
 unfold O.As;rw[ak hk,hN,<-Int.natCast_mul,eC]
theorem alp(b:Nat)(j:O.J)(A:JA)(y x k:Int)(w:World)(hJ:Jm w b j A)(hj:O.kx j)(y0:0<=y)(y1:y<=255)(x0:0<=x)(x1:x<=255) :
  Calls prog 155 #[.pointer (some ⟨b,0,none⟩),.int .i64 y,.int .i64 x,.int .i64 k] w fun e w'=>e=.returned (.int .i64 (O.As j y x k))/\w.grownBy w' none:=by
 have d0:=hJ.aE;have d1:=hJ.size;have d2:=hJ.af;have HJ:=ae hJ;have Hj:=ae hj;obtain⟨t0,t1⟩:=hj.dQ.aE;have m1:=O.kR (a:=y) (b:=j.op.aE) (A:=255) (B:=255) (by omega) (by omega);have m2:=O.kR (a:=x) (b:=j.op.aE) (A:=255) (B:=255) (by omega) (by omega);obtain⟨N,hN⟩:∃N:Nat,j.op.size=N:=⟨j.op.size.toNat,(uw hj.dQ.size.1).symm⟩;have N1:N<=255:=by have:=hj.dQ.size.2;omega
 rw[hN] at d1;have HN:=ae hN;have HP:=ae (fun(i p:Nat) (hp:p<N)=>alm (j:=j) (y:=y) (x:=x) (k:=k) (i:=i) hN hp);have HR:=ae (fun q=>hj.a.at (y*j.op.aE+(q:Nat)/j.op.size) (x*j.op.aE+(q:Nat)%j.op.size) k);have HF:=ae (show ∀q,-128<=O.iY j y x k q/\O.iY j y x k q<=127 from HR.out);have HK:=ae d2;clear hJ hj hN HR d2;go_enter func155,ntmps155;go_wp2;generalize y*j.op.aE=u at *;generalize x*j.op.aE=v at *;obtain⟨f,Hf⟩:∃f,Hid (O.iY j y x k=f):=⟨_,rfl⟩;rw[Hf.out] at HP HF;go_loopw[11,12,13] (fun e s i wr=>∃q:Nat,q<=N/\i=.int .i64 q/\e=.int .i64 (O.oW f (q*N))/\s=.int .i64 (D.S f (q*N))/\∃m,wr=w.drewN m) (fun _ _ i _=>N-(intOf i).toNat)
 case atStart=>exact⟨0,bK _,rfl,by rw[Nat.zero_mul];rfl,by rw[Nat.zero_mul];rfl,0,rfl⟩
 case round=>
  obtain⟨i,hi,rfl,rfl,rfl,m,rfl⟩:=hrel;by_cases aJ:i<N
  ·go_wp2
   go_loopw[11,12,14] (fun e s i' wr=>∃p:Nat,p<=N/\i'=.int .i64 p/\e=.int .i64 (O.oW f (i*N+p))/\s=.int .i64 (D.S f (i*N+p))/\∃m,wr=w.drewN m) (fun _ _ i _=>N-(intOf i).toNat)
   case atStart=>exact⟨0,bK _,rfl,rfl,rfl,m,rfl⟩
   case round=>
    obtain⟨p,hp,rfl,rfl,rfl,m,rfl⟩:=hrel;by_cases lk:p<N
    ·have hB:=Yg HF.out (i*N+p)
     have hS:=O.yR (f:=f) (n:=i*N+p) (N:=65280) (B:=128) (by
      have:i*N<=255*255:=Nat.mul_le_mul (by omega) (by omega);omega) (by decide) fun q _=>by have:=HF.out q;omega
     have hv:=HF.out (i*N+p);have H1:=ae (show O.oW f (i*N+(p+1))=if O.oW f (i*N+p)<f (i*N+p) then f (i*N+p) else O.oW f (i*N+p) from rfl);have H2:=ae (show D.S f (i*N+(p+1))=D.S f (i*N+p)+f (i*N+p) from rfl);have H3:=ae (HP.out i p lk);go_wp2_with fail;refine(yT b 16 j.a A.aa A.ac (u+i) (v+p) k _ (HJ.out.a.drewN _) Hj.out.a.len Hj.out.a.h1 Hj.out.a.w1 Hj.out.a.c1).mono ?_;rintro e w4⟨rfl,m4,rfl⟩;rw[<-H3.out];generalize O.oW f (i*N+p)=B at *;generalize D.S f (i*N+p)=S at *;generalize f (i*N+p)=c at *;obtain⟨b0,b1⟩:=hB;obtain⟨s0,s1⟩:=hS;obtain⟨c0,c1⟩:=hv;by_cases hc:B<c
     ·rw[ay hc] at H1
      go_wp2;go_roundw
      case rel=>exact⟨p+1,by omega,by go_num,by rw[H1.out],by rw[H2.out],_,rfl⟩
      case measure=>simp[intOf];omega
     ·rw[ak hc] at H1
      go_wp2;go_roundw
      case rel=>exact⟨p+1,by omega,by go_num,by rw[H1.out],by rw[H2.out],_,rfl⟩
      case measure=>simp[intOf];omega
    ·obtain rfl:p=N:=by omega
     have H1:=ae (show O.oW f (i*p+p)=O.oW f ((i+1)*p) by rw[Nat.succ_mul]);have H2:=ae (show D.S f (i*p+p)=D.S f ((i+1)*p) by rw[Nat.succ_mul]);rw[H1.out,H2.out];go_wp2;go_roundw
     case rel=>exact⟨i+1,by omega,by go_num,rfl,rfl,_,rfl⟩
     case measure=>simp[intOf];omega
  ·obtain rfl:i=N:=by omega
   have d2:=HK.out;have hB:=Yg HF.out (i*i);have hS:=O.yR (f:=f) (n:=i*i) (N:=65280) (B:=128) (by
    have:i*i<=255*255:=Nat.mul_le_mul (by omega) (by omega);omega) (by decide) fun q _=>by have:=HF.out q;omega
   have Nk:=O.kR (a:=(i:Int)) (b:=(i:Int)) (A:=255) (B:=255) (by omega) (by omega);by_cases h5:j.op.af=5
   ·have h5':(j.op.af==5)=true:=by simp[h5]
    have He:=ae (aln (y:=y) (x:=x) (k:=k) HN.out h5);rw[Hf.out] at He;clear h5;go_wp2_with fail;refine(Ni b j A (O.oW f (i*i)) _ (HJ.out.drewN _)).mono ?_;rintro e w4⟨rfl,m4,rfl⟩;go_wp2;go_ret;exact⟨cH He.out.symm,bE _ _ _⟩
   ·have h5':(j.op.af==5)=false:=by simp[h5]
    have He:=ae (alo (y:=y) (x:=x) (k:=k) HN.out h5);rw[Hf.out] at He;clear h5;generalize D.S f (i*i)=S at *;obtain⟨s0,s1⟩:=hS;obtain⟨i0,i1⟩:=Nk;go_wp2_with fail;have Co:=ae (HJ.out.drewN m);have iC:=ae (bE w m none);clear d0 d1 d2 HK HJ;generalize w.drewN m=w5 at *;have d1:=Co.out.size;rw[HN.out] at d1;go_quiet (first|(go_at_call 179;refine mU (Yb S ((i:Int)*i) _ (by omega) (by omega) (by omega))));have HJ6:=ae (Co.out.drewN nq);have kI:=ae (aC iC.out (bE w5 nq none));clear Co iC d1;generalize w5.drewN nq=w6 at *;generalize O.oV S ((i:Int)*i)=q at *;go_wp2_with fail;refine(Ni b j A q _ HJ6.out).mono ?_;rintro e w4⟨rfl,m4,rfl⟩;have lA:=ae (aC kI.out (bE w6 m4 none));go_wp2;go_ret;exact⟨cH He.out.symm,lA.out⟩
theorem Yh(b:Nat)(j:O.J)(A:JA)(y x o first kO shift:Int)(w:World)(hJ:Jm w b j A)(hj:O.kx j)(hl:j.op.bM.length=1)(y0:0<=y)(y1:y<=255)(x0:0<=x)(x1:x<=255)
  (f0:0<=first) (f1:first<=255) (l0:first<=kO) (l1:kO-first<=255) (h0:0<=shift) (h1:shift<=65025) (hs:j.aP.h*j.aP.w*(kO-first)<=512) :
  Calls prog 152 #[.pointer (some ⟨b,0,none⟩),.int .i64 y,.int .i64 x,.int .i64 o,.int .i64 first,.int .i64 kO,.int .i64 shift] w fun e w'=>e=.returned (.int .i64 (O.vI j y x o first kO shift))/\w.grownBy w' none:=by
 obtain⟨n,hn⟩:=fT (show 0<=kO-first by omega);obtain rfl:kO=first+n:=by omega
 exact ali b j A y x o first shift n w hJ hj hl y0 y1 x0 x1 f0 f1 (by omega) h0 h1 (by rw[<-hn];exact hs)
structure FK(j:O.J):Prop where
 s1:j.op.af=1\/j.op.af=2\/j.op.af=3->j.op.bM.length=1
 s3:j.op.af=4->j.op.bM.length=3
 w1:j.op.af=1->j.aP.h*j.aP.w*j.a.c<=512
 w2:j.op.af=2->j.aP.h*j.aP.w<=512
theorem als{m:M.Md}{o:M.Op}{la lb:List Int}(F:O.jQ m o la lb):FK (O.start m o la lb):=by
 have ew:M.cm o.af=true->(O.start m o la lb).aP=O.fg (M.aq m o.aP) (M.aq m o.aP).data:=fun hW=>ay hW;refine⟨fun h=>?_,fun h=>?_,fun h=>?_,fun h=>?_⟩
 ·have h:o.af=1\/o.af=2\/o.af=3:=h
  have:=F.dQ.bM;rw[ay (by rw[ku];exact h)] at this;exact this
 ·have h:o.af=4:=h
  have:=F.dQ.bM;rw[ak (by rw[ku];omega),ay h] at this;exact this
 ·have h:o.af=1:=h
  have:=F.lR (.inl h);rw[ay h] at this;rw[ew (by rw[ku];omega)];exact this
 ·have h:o.af=2:=h
  have:=F.lR (.inr h);rw[ak (by omega),Int.mul_one] at this;rw[ew (by rw[ku];omega)];exact this
open Go.RowKit Go.Sort
theorem Jg{f:FuncId}{args:Array Value}{w:World}{v:Value}(h:∀W,w.grownBy W none->Calls prog f args W fun e w'=>e=.returned v/\W.grownBy w' none)(d:Nat)(os:Array Obj) :
  Calls prog f args (grow (redrawn w d) os) fun e qY=>e=.returned v/\∃p:Regrown,qY=grow (redrawn w p.d) p.os:=
 Calls.regrown_of ((h _ (BE (below_regrown w d os))).mono fun _ _ ⟨he,hg⟩=>⟨he,xj hg⟩)
theorem alu(b:Nat)(j:O.J)(A:JA)(y x k:Int)(w:World)(hJ:Jm w b j A)(hj:O.kx j)(hk:FK j)(y0:0<=y)(y1:y<=255)(x0:0<=x)(x1:x<=255)(k0:0<=k)(k1:k<=255)(h:j.op.af=1) :
  Calls prog 124 #[.pointer (some ⟨b,0,none⟩),.int .i64 y,.int .i64 x,.int .i64 k] w fun e w'=>e=.returned (.int .i64 (O.cell j y x k))/\w.grownBy w' none:=by
 have d0:=hJ.af;have d1:=cell_regrown hJ.a.gc;rw[h] at d0;obtain⟨c0,c1⟩:=And.intro hj.a.c0 hj.a.c1;have m1:=O.kR (a:=k) (b:=j.a.c) (A:=255) (B:=255) (by omega) (by omega);have m0:0<=k*j.a.c:=lg k0 c0;have Yi:=ae (show IntKind.i64.wrap (k*j.a.c)=k*j.a.c by rw[cU];omega);have He:=ae (show O.cell j y x k=O.vI j y x k 0 j.a.c (k*j.a.c) by unfold O.cell;rw[ay h]);have HC:=ae (Jg (w:=w) fun W hW=>Yh b j A y x k 0 j.a.c (k*j.a.c) W (hJ.kept hW) hj (hk.s1 (.inl h)) y0 y1 x0 x1 (by decide) (by decide) c0 (by omega) m0 (by omega) (by rw[Int.sub_zero];exact hk.w1 h));clear hJ hj hk h;go_enter func124,ntmps124;go_wp2_with fail;refine wp_region_quiet_below (by kernel_rfl) (by kernel_rfl) ?_
 repeat (quiet_step ((rw[Yi.out];exact HC.out _ _)))
 refine wpQuiet_nil ?_;intro _ rS;obtain⟨⟨dq,osq⟩,AA⟩:=rS;subst AA;go_wp2;go_ret;exact⟨cH He.out.symm,BE (below_regrown w dq osq)⟩
theorem alv(b:Nat)(j:O.J)(A:JA)(y x k:Int)(w:World)(hJ:Jm w b j A)(hj:O.kx j)(hk:FK j)(y0:0<=y)(y1:y<=255)(x0:0<=x)(x1:x<=255)(k0:0<=k)(k1:k<=255)(h:j.op.af=2) :
  Calls prog 124 #[.pointer (some ⟨b,0,none⟩),.int .i64 y,.int .i64 x,.int .i64 k] w fun e w'=>e=.returned (.int .i64 (O.cell j y x k))/\w.grownBy w' none:=by
 have d0:=hJ.af;rw[h] at d0;have He:=ae (show O.cell j y x k=O.vI j y x k k (k+1) 0 by unfold O.cell;rw[ak (by omega),ay h]);have HC:=ae (fun(W:World) (hW:w.grownBy W none)=>Yh b j A y x k k (k+1) 0 W (hJ.kept hW) hj (hk.s1 (.inr (.inl h))) y0 y1 x0 x1 k0 k1 (by omega) (by omega) (by omega) (by omega) (by rw[show k+1-k=1 by omega,Int.mul_one];exact hk.w2 h));clear hJ hj hk h;go_enter func124,ntmps124;go_wp2_with fail;refine(HC.out _ (fZ _ _)).mono ?_;rintro e w2⟨rfl,aM⟩;go_wp2;go_ret;exact⟨cH He.out.symm,aM⟩
theorem alw(b:Nat)(j:O.J)(A:JA)(y x k:Int)(w:World)(hJ:Jm w b j A)(hj:O.kx j)(hk:FK j)(h:j.op.af=3) :
  Calls prog 124 #[.pointer (some ⟨b,0,none⟩),.int .i64 y,.int .i64 x,.int .i64 k] w fun e w'=>e=.returned (.int .i64 (O.cell j y x k))/\w.grownBy w' none:=by
 have d0:=hJ.af;rw[h] at d0;have He:=ae (show O.cell j y x k=O.MK j k by unfold O.cell;rw[ak (by omega),ak (by omega),ay h]);have HC:=ae (alf b j A k w hJ hj (hk.s1 (.inr (.inr h))));clear hJ hj hk h;go_enter func124,ntmps124;go_wp2_with fail;refine HC.out.mono ?_;rintro e w2⟨rfl,aM⟩;go_wp2;go_ret;exact⟨cH He.out.symm,aM⟩
theorem alx(b:Nat)(j:O.J)(A:JA)(y x k:Int)(w:World)(hJ:Jm w b j A)(hj:O.kx j)(hk:FK j)(h:j.op.af=4) :
  Calls prog 124 #[.pointer (some ⟨b,0,none⟩),.int .i64 y,.int .i64 x,.int .i64 k] w fun e w'=>e=.returned (.int .i64 (O.cell j y x k))/\w.grownBy w' none:=by
 have d0:=hJ.af;rw[h] at d0;have He:=ae (show O.cell j y x k=O.add j y x k by unfold O.cell;rw[ak (by omega),ak (by omega),ak (by omega),ay h]);have HC:=ae (ald b j A y x k w hJ hj (hk.s3 h));clear hJ hj hk h;go_enter func124,ntmps124;go_wp2_with fail;refine HC.out.mono ?_;rintro e w2⟨rfl,aM⟩;go_wp2;go_ret;exact⟨cH He.out.symm,aM⟩
theorem aly(b:Nat)(j:O.J)(A:JA)(y x k:Int)(w:World)(hJ:Jm w b j A)(hj:O.kx j)(y0:0<=y)(y1:y<=255)(x0:0<=x)(x1:x<=255)(h:j.op.af=5\/j.op.af=6) :
  Calls prog 124 #[.pointer (some ⟨b,0,none⟩),.int .i64 y,.int .i64 x,.int .i64 k] w fun e w'=>e=.returned (.int .i64 (O.cell j y x k))/\w.grownBy w' none:=by
 have d0:=hJ.af;have He:=ae (show O.cell j y x k=O.As j y x k by unfold O.cell;rw[ak (by omega),ak (by omega),ak (by omega),ak (by omega),ay h]);have HC:=ae (alp b j A y x k w hJ hj y0 y1 x0 x1);clear hJ hj;rcases h with h|h
 ·rw[h] at d0
  clear h;go_enter func124,ntmps124;go_wp2_with fail;refine HC.out.mono ?_;rintro e w2⟨rfl,aM⟩;go_wp2;go_ret;exact⟨cH He.out.symm,aM⟩
 ·rw[h] at d0
  clear h;go_enter func124,ntmps124;go_wp2_with fail;refine HC.out.mono ?_;rintro e w2⟨rfl,aM⟩;go_wp2;go_ret;exact⟨cH He.out.symm,aM⟩
theorem alz(b:Nat)(j:O.J)(A:JA)(y x k:Int)(w:World)(hJ:Jm w b j A)(hj:O.kx j)(h:j.op.af=7) :
  Calls prog 124 #[.pointer (some ⟨b,0,none⟩),.int .i64 y,.int .i64 x,.int .i64 k] w fun e w'=>e=.returned (.int .i64 (O.cell j y x k))/\w.grownBy w' none:=by
 have d0:=hJ.af;rw[h] at d0;have He:=ae (show O.cell j y x k=O.uk j (O.bN j.a y x k) by unfold O.cell;rw[ak (by omega),ak (by omega),ak (by omega),ak (by omega),ak (by omega),ay h]);have HJ:=ae hJ;have Hj:=ae hj;clear hJ hj h;go_enter func124,ntmps124;go_wp2_with fail;refine(yT b 16 j.a A.aa A.ac y x k _ HJ.out.a Hj.out.a.len Hj.out.a.h1 Hj.out.a.w1 Hj.out.a.c1).mono ?_;rintro e w4⟨rfl,m4,rfl⟩;generalize O.bN j.a y x k=v at *;go_wp2_with fail;refine(Ni b j A v _ (HJ.out.drewN _)).mono ?_;rintro e w5⟨rfl,m5,rfl⟩;go_wp2;go_ret;exact⟨cH He.out.symm,bE _ _ _⟩
theorem alA(b:Nat)(j:O.J)(A:JA)(y x k:Int)(w:World)(hJ:Jm w b j A)(hj:O.kx j)(y0:0<=y)(y1:y<=255)(x0:0<=x)(x1:x<=255)(h:j.op.af=8) :
  Calls prog 124 #[.pointer (some ⟨b,0,none⟩),.int .i64 y,.int .i64 x,.int .i64 k] w fun e w'=>e=.returned (.int .i64 (O.cell j y x k))/\w.grownBy w' none:=by
 have d0:=hJ.af;have d1:=hJ.aT;have d2:=hJ.left;rw[h] at d0;obtain⟨a0,a1⟩:=hj.dQ.aT;obtain⟨l0,l1⟩:=hj.dQ.left;have He:=ae (show O.cell j y x k=O.bN j.a (y-j.op.aT) (x-j.op.left) k by unfold O.cell;rw[ak (by omega),ak (by omega),ak (by omega),ak (by omega),ak (by omega),ak (by omega),ay h]);have HJ:=ae hJ;have Hj:=ae hj;clear hJ hj h;go_enter func124,ntmps124;go_wp2_with fail;go_quiet (first|(go_at_call 156;refine Calls.quiet_of (yT b 16 j.a A.aa A.ac (y-j.op.aT) (x-j.op.left) k _ (HJ.out.a.drewN _) Hj.out.a.len Hj.out.a.h1 Hj.out.a.w1 Hj.out.a.c1)));go_wp2;go_ret;exact⟨cH He.out.symm,bE _ _ _⟩
theorem alB(b:Nat)(j:O.J)(A:JA)(y x k:Int)(w:World)(hJ:Jm w b j A)(hj:O.kx j)(y0:0<=y)(y1:y<=255)(x0:0<=x)(x1:x<=255)(k0:0<=k)(k1:k<=255)(h:j.op.af=9) :
  Calls prog 124 #[.pointer (some ⟨b,0,none⟩),.int .i64 y,.int .i64 x,.int .i64 k] w fun e w'=>e=.returned (.int .i64 (O.cell j y x k))/\w.grownBy w' none:=by
 have d0:=hJ.af;have d1:=hJ.mw;have d2:=hJ.mc;rw[h] at d0;obtain⟨a0,a1⟩:=And.intro hj.z.w0 hj.z.w1;obtain⟨l0,l1⟩:=And.intro hj.z.c0 hj.z.c1;have m1:=O.kR (a:=y) (b:=j.dM.w) (A:=255) (B:=255) (by omega) (by omega);have m2:=O.kR (a:=y*j.dM.w+x) (b:=j.dM.c) (A:=65280) (B:=255) (by omega) (by omega);have He:=ae (show O.cell j y x k=O.jZ j.a ((y*j.dM.w+x)*j.dM.c+k) by unfold O.cell;rw[ak (by omega),ak (by omega),ak (by omega),ak (by omega),ak (by omega),ak (by omega),ak (by omega),ay h]);have HJ:=ae hJ;have Hj:=ae hj;clear hJ hj h;go_enter func124,ntmps124;go_wp2_with fail;go_quiet (first|(go_at_call 158;refine mU (Nh b 16 j.a A.aa A.ac ((y*j.dM.w+x)*j.dM.c+k) _ (HJ.out.a.drewN _) Hj.out.a.len)));go_wp2;go_ret;exact⟨cH He.out.symm,bE _ _ _⟩
theorem alC(b:Nat)(j:O.J)(A:JA)(y x k:Int)(w:World)(hJ:Jm w b j A)(hj:O.kx j)(k0:0<=k)(k1:k<=255)(h:j.op.af=10) :
  Calls prog 124 #[.pointer (some ⟨b,0,none⟩),.int .i64 y,.int .i64 x,.int .i64 k] w fun e w'=>e=.returned (.int .i64 (O.cell j y x k))/\w.grownBy w' none:=by
 have d0:=hJ.af;have d1:=hJ.a.gc;rw[h] at d0;obtain⟨l0,l1⟩:=And.intro hj.a.c0 hj.a.c1;have He:=ae (show O.cell j y x k=if k<j.a.c then O.bN j.a y x k else O.bN j.b y x (k-j.a.c) by unfold O.cell;rw[ak (by omega),ak (by omega),ak (by omega),ak (by omega),ak (by omega),ak (by omega),ak (by omega),ak (by omega),ay h]);have HJ:=ae hJ;have Hj:=ae hj;clear hJ hj h;by_cases hc:k<j.a.c
 ·rw[ay hc] at He
  go_enter func124,ntmps124;go_wp2_with fail;refine(yT b 16 j.a A.aa A.ac y x k _ HJ.out.a Hj.out.a.len Hj.out.a.h1 Hj.out.a.w1 Hj.out.a.c1).mono ?_;rintro e w4⟨rfl,m4,rfl⟩;go_wp2;go_ret;exact⟨cH He.out.symm,bE _ _ _⟩
 ·rw[ak hc] at He
  go_enter func124,ntmps124;go_wp2_with fail;go_quiet (first|(go_at_call 156;refine Calls.quiet_of (yT b 21 j.b A.ba A.bc y x (k-j.a.c) _ (HJ.out.bb.drewN _) Hj.out.b.len Hj.out.b.h1 Hj.out.b.w1 Hj.out.b.c1)));go_wp2;go_ret;exact⟨cH He.out.symm,bE _ _ _⟩
theorem alD(b:Nat)(j:O.J)(A:JA)(y x k:Int)(w:World)(hJ:Jm w b j A)(hj:O.kx j)(hk:FK j)(y0:0<=y)(y1:y<=255)(x0:0<=x)(x1:x<=255)(k0:0<=k)(k1:k<=255) :
  Calls prog 124 #[.pointer (some ⟨b,0,none⟩),.int .i64 y,.int .i64 x,.int .i64 k] w fun e w'=>e=.returned (.int .i64 (O.cell j y x k))/\w.grownBy w' none:=by
 have f0:=hj.dQ.k0;have f1:=hj.dQ.k1;by_cases h1:j.op.af=1
 ·exact alu b j A y x k w hJ hj hk y0 y1 x0 x1 k0 k1 h1
 by_cases h2:j.op.af=2
 ·exact alv b j A y x k w hJ hj hk y0 y1 x0 x1 k0 k1 h2
 by_cases h3:j.op.af=3
 ·exact alw b j A y x k w hJ hj hk h3
 by_cases h4:j.op.af=4
 ·exact alx b j A y x k w hJ hj hk h4
 by_cases h5:j.op.af=5\/j.op.af=6
 ·exact aly b j A y x k w hJ hj y0 y1 x0 x1 h5
 by_cases h7:j.op.af=7
 ·exact alz b j A y x k w hJ hj h7
 by_cases h8:j.op.af=8
 ·exact alA b j A y x k w hJ hj y0 y1 x0 x1 h8
 by_cases h9:j.op.af=9
 ·exact alB b j A y x k w hJ hj y0 y1 x0 x1 k0 k1 h9
 exact alC b j A y x k w hJ hj k0 k1 (by omega)
end Go.Proofs.YtcnhfffgbamonaaGreat
