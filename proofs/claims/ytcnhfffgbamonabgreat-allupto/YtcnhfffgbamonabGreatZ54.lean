import Derived.Test.YtcnhfffgbamonabGreatZ31
import Derived.Test.YtcnhfffgbamonabGreatZ53
set_option maxRecDepth 100000
set_option maxHeartbeats 6400000
namespace Go.Proofs.YtcnhfffgbamonabGreat
open Go.Proofs.Tryz
open Go.RowKit
structure jy(w:World)(r gb ga c1 cb:Nat)(g:R.bX)(E:List (List Int)):Prop where
 p:w.cell? ⟨r,0,none⟩=some (.pointer (some ⟨gb,0,none⟩))
 c:w.cell? ⟨r,1,none⟩=some (.slice (some ⟨cb,0,none⟩) g.ts.length g.ts.length)
 t:tD w gb ga c1 g
 e:∀(n:Nat) l,E[n]?=some l->∃a cp,w.cell? ⟨cb,n,none⟩=some (.slice a l.length cp)/\Sl w (.slice a l.length cp) l
 oX:g.ts.length<=255
theorem OJ.Z{w w':World}{g off:Nat}{t:M.Tn}(h:OJ w g off t)(hg:w.grownBy w' none):OJ w' g off t:=⟨aG hg h.k,aG hg h.h,aG hg h.v,aG hg h.c,aG hg h.z⟩
theorem jy.Z{w w':World}{r gb ga c1 cb:Nat}{g:R.bX}{E:List (List Int)}(h:jy w r gb ga c1 cb g E)(hg:w.grownBy w' none):jy w' r gb ga c1 cb g E:=
 ⟨aG hg h.p,aG hg h.c,⟨aG hg h.t.q,fun i t ht=>(h.t.t i t ht).Z hg⟩,fun n l hl=>by
  obtain⟨a,cp,h1,h2⟩:=h.e n l hl;exact⟨a,cp,aG hg h1,h2.Z hg⟩,h.oX⟩
theorem uN(r gb ga c1 cb:Nat)(g:R.bX)(E:List (List Int))(n:Nat)(t:M.Tn)(l:List Int)(y x c:Int)(w:World)(hR:jy w r gb ga c1 cb g E)(ht:g.ts[n]?=some t)(hl:E[n]?=some l)
  (hy:-100000<=y/\y<=100000) (hx:-100000<=x/\x<=100000) (hc:-100000<=c/\c<=100000) (hw:0<=t.w/\t.w<=255) (hk:0<=t.c/\t.c<=255) (h0:0<=(y*t.w+x)*t.c+c) (h1:(y*t.w+x)*t.c+c<l.length) (qi:l.length<=100000) :
  Calls prog 150 #[.pointer (some ⟨r,0,none⟩),.int .i64 n,.int .i64 y,.int .i64 x,.int .i64 c] w fun e w'=>e=.returned (.int .i64 (D.bN t l y x c))/\∃m,w'=w.drewN m:=by
 obtain⟨i,hi⟩:=fR h0;have fC:i<l.length:=by omega
 obtain⟨v,hv⟩:∃v,l[i]?=some v:=⟨_,aT fC⟩;have He:Hid (D.bN t l y x c=v):=by unfold Hid D.bN D.get;rw[hi,ak (by omega),ey,List.getD,hv];rfl
 obtain⟨a,cp,d1,hS⟩:=hR.e n l hl;obtain⟨ad,rfl,dv⟩:=hS.get i v hv;have q0:=hR.p;have q1:=hR.c;have q2:=hR.t.q;have hT:=hR.t.t n t ht;have t2:=hT.v;have t3:=hT.c;have fO:=M.bP ht;have vU:=hR.oX;have m1:=O.kO (A:=100000) (B:=255) hy (show -255<=t.w/\t.w<=255 by omega);have m2:=O.kO (a:=y*t.w+x) (A:=25600000) (B:=255) (by omega) (show -255<=t.c/\t.c<=255 by omega);have w1:IntKind.i64.wrap (y*t.w)=y*t.w:=by rw[cS];omega
 have w2:IntKind.i64.wrap (y*t.w+x)=y*t.w+x:=by rw[cS];omega
 have w3:IntKind.i64.wrap ((y*t.w+x)*t.c)=(y*t.w+x)*t.c:=by rw[cS];omega
 have w4:IntKind.i64.wrap ((y*t.w+x)*t.c+c)=(i:Int):=by rw[<-hi,cS];omega
 have abJ:l.length<=100000:=qi;clear hR hS hT ht hl hv h0 h1 hi m1 m2 hy hx hc hw hk qi;generalize t.w=tw at *;generalize t.c=tc at *;go_enter func150,ntmps150;go_wp2;go_quiet (fail);go_wp2;go_ret;exact⟨cE He.out.symm,nq,rfl⟩
theorem adt(r gb ga c1 cb:Nat)(g:R.bX)(E:List (List Int))(n:Nat)(t:M.Tn)(y x:Int)(w:World)(hR:jy w r gb ga c1 cb g E)(ht:g.ts[n]?=some t) :
  Calls prog 156 #[.pointer (some ⟨r,0,none⟩),.int .i64 n,.int .i64 y,.int .i64 x] w fun e w'=>e=.returned (.bool (D.oc t y x))/\w'=w:=by
 have q0:=hR.p;have q2:=hR.t.q;have hT:=hR.t.t n t ht;have t1:=hT.h;have t2:=hT.v;have fO:=M.bP ht;have vU:=hR.oX;have He:Hid (D.oc t y x=(decide (0<=y)&&decide (y<t.h)&&decide (0<=x)&&decide (x<t.w))):=rfl;clear hR hT ht;generalize t.h=th at *;generalize t.w=tw at *;by_cases b1:0<=y
 ·by_cases b2:y<th
  ·by_cases b3:0<=x
   ·by_cases b4:x<tw
    ·go_enter func156,ntmps156
     go_wp2;go_ret;exact⟨bq (by rw[He.out,eG b1,eG b2,eG b3,eG b4];rfl),rfl⟩
    ·go_enter func156,ntmps156
     go_wp2;go_ret;exact⟨bq (by rw[He.out,eG b1,eG b2,eG b3,eD (show ¬x<tw by omega)];rfl),rfl⟩
   ·go_enter func156,ntmps156
    go_wp2;go_ret;exact⟨bq (by rw[He.out,eD (show ¬0<=x by omega)];simp),rfl⟩
  ·go_enter func156,ntmps156
   go_wp2;go_ret;exact⟨bq (by rw[He.out,eD (show ¬y<th by omega)];simp),rfl⟩
 ·go_enter func156,ntmps156
  go_wp2;go_ret;exact⟨bq (by rw[He.out,eD (show ¬0<=y by omega)];simp),rfl⟩
theorem TO(r gb ga c1 cb p off:Nat)(g:R.bX)(E:List (List Int))(o:R.Op)(k nz:Nat)(s m sh lo hi:Int)(z:M.Tn)(w:World)(hR:jy w r gb ga c1 cb g E)(hO:jY w p off o)
  (hm:o.cO[k]?=some m) (hs:o.cO[k+1]?=some sh) (lX:o.cO[o.cO.length-2]?=some lo) (Ig:o.cO[o.cO.length-1]?=some hi) (hz:g.ts[nz]?=some z) (ho:o.out=nz) (hl:o.cO.length<=8)
  (s0:-2147483648<=s) (s1:s<=2147483648) (m0:0<=m) (m1:m<=2147483647) (h0:-31<=sh) (h1:sh<=30) (z0:-128<=z.zero/\z.zero<=127) (hv:-2147483648<=R.iL s m sh/\R.iL s m sh<=2147483648) :
  Calls prog 149 #[.pointer (some ⟨r,0,none⟩),.pointer (some ⟨p,off,none⟩),.int .i64 s,.int .i64 k] w fun e w'=>e=.returned (.int .i64 (R.cU (R.iL s m sh+z.zero) lo hi))/\∃n,w'=w.drewN n:=by
 have q0:=hR.p;have q2:=hR.t.q;have tz:=(hR.t.t nz z hz).z;have fO:=M.bP hz;have vU:=hR.oX;have qH:=M.bP hs;obtain⟨ai,ci,an,cn,-,-,o2,o3,-,hN⟩:=hO;rw[ho] at o2;obtain⟨gn,e1,-,-,dm⟩:=hN.get k m hm;subst e1;obtain⟨_,e1,-,-,ds⟩:=hN.get (k+1) sh hs;injection e1 with e1;injection e1 with e1 _ _;subst e1;obtain⟨_,e1,-,-,OK⟩:=hN.get _ lo lX;injection e1 with e1;injection e1 with e1 _ _;subst e1;obtain⟨_,e1,-,-,OL⟩:=hN.get _ hi Ig;injection e1 with e1;injection e1 with e1 _ _;subst e1;have h2:2<=o.cO.length:=by omega
 have jk:=ae (fun nd=>Tf s m sh (w.drewN nd) s0 s1 m0 m1 h0 h1);obtain⟨v,Hv⟩:∃v,Hid (R.iL s m sh=v):=⟨_,rfl⟩;rw[Hv.out] at jk hv ⊢;have iW:=ae (fun W=>Te (v+z.zero) lo hi W);obtain⟨q,Hq⟩:∃q,Hid (o.cO.length=q+2):=⟨o.cO.length-2,by unfold Hid;omega⟩;rw[Hq.out] at o3 OK OL qH hl;rw[show q+2-2=q by omega] at OK;rw[show q+2-1=q+1 by omega] at OL;have w1:IntKind.i64.wrap ((k:Int)+1)=((k+1:Nat):Int):=by rw[cS];omega
 have w2:IntKind.i64.wrap (((q+2:Nat):Int)-2)=(q:Int):=by rw[cS];omega
 have w3:IntKind.i64.wrap (((q+2:Nat):Int)-1)=((q+1:Nat):Int):=by rw[cS];omega
 have w4:IntKind.i64.wrap (v+z.zero)=v+z.zero:=by rw[cS];omega
 have i1:(k:Int)<((q+2:Nat):Int):=by omega
 have i2:((k+1:Nat):Int)<((q+2:Nat):Int):=by omega
 have i3:(q:Int)<((q+2:Nat):Int):=by omega
 have i4:((q+1:Nat):Int)<((q+2:Nat):Int):=by omega
 clear hR hN hm hs lX Ig hz ho s0 s1 m0 m1 h0 h1 hv h2 z0;generalize z.zero=zz at *;go_enter func149,ntmps149;go_wp2_with fail;go_quiet (exact mQ (jk.out _));have gq:=bF w nq none;have Ay:=aG gq q0;have q2':=aG gq q2;have tz':=aG gq tz;have x9:=aG gq o2;have uO:=aG gq o3;have arz:=aG gq OK;have arA:=aG gq OL;clear gq q0 q2 tz o2 o3 OK OL dm ds jk;obtain⟨W,HW⟩:∃W,Hid (w.drewN nq=W):=⟨_,rfl⟩;rw[HW.out] at Ay q2' tz' x9 uO arz arA ⊢;go_wp2_with fail;go_quiet (exact mQ (iW.out _));go_wp2;go_ret;exact⟨rfl,_,by rw[<-HW.out,World.drewN_drewN]⟩
namespace R
structure Win(o:M.Op)(r:D.gD)(y x c:Int):Prop where
 wH:CY r
 ah:1<=r.a.h/\r.a.h<=255
 aw:1<=r.a.w/\r.a.w<=255
 ac:1<=r.a.c/\r.a.c<=255
 wh:1<=r.w.h/\r.w.h<=255
 ww:1<=r.w.w/\r.w.w<=255
 wc:1<=r.w.c/\r.w.c<=255
 la:(r.la.length:Int)=r.a.h*r.a.w*r.a.c
 lw:(r.lw.length:Int)=r.w.h*r.w.w*r.w.c
 OM:r.la.length<=512
 lw5:r.lw.length<=512
 st:1<=o.aE/\o.aE<=255
 yr:0<=y/\y<=255
 xr:0<=x/\x<=255
 cr:0<=c/\c<=255
 bi:c<r.mH.length
 bl:r.mH.length<=512
 arB:o.af=2->c<r.w.c/\c<r.a.c
 sN:o.af≠2->∀k,0<=k->k<r.a.c->0<=c*r.a.c+k/\c*r.a.c+k<r.w.c
theorem adw(L n s:Int)(same:Bool):∀(f:Nat) (p:Int),0<=placesFrom L n s same f p/\placesFrom L n s same f p<=f
 | 0,_=>⟨Int.le_refl _,Int.le_refl _⟩
 | f+1,p=>by
  have ih:=adw L n s same f (p+s);unfold placesFrom
  split
  ·split<;>omega
  ·omega
theorem adx{L n s:Int}(same:Bool)(l0:1<=L)(l1:L<=255)(n0:1<=n)(n1:n<=255)(s0:1<=s)(s1:s<=255):0<=D.kI L n s same/\D.kI L n s same<=65535:=by
 rw[<-D.Qm same (by omega) s0 n0];have hp:=adw L n s same L.toNat 0;unfold R.kI;have iH:0<=gC L n s same/\gC L n s same<=255:=by unfold gC;omega
 generalize gC L n s same=k at *;have m:=O.kO (a:=k-1) (b:=s) (A:=255) (B:=255) (by omega) (by omega);show 0<=(if same=false\/(k-1)*s+n-L<0 then 0 else ((k-1)*s+n-L)/2)/\(if same=false\/(k-1)*s+n-L<0 then 0 else ((k-1)*s+n-L)/2)<=65535
 split<;>omega
theorem arC{m:M.Md}{o:M.Op}{la lb:List Int}(F:O.jN m o la lb)(hk:o.af=1\/o.af=2){y x c:Int}(y0:0<=y)(y1:y<(M.aq m o.to).h)(x0:0<=x)(x1:x<(M.aq m o.to).w)(c0:0<=c)(c1:c<(M.aq m o.to).c):Win o (O.cY m o la lb) y x c:=by
 have hW:M.cm o.af=true:=by rcases hk with h|h<;>rw[h]<;>rfl
 have cp:=O.Qt (O.Qu F.bT hk);obtain⟨zh,zw,zr,dz,fz⟩:=cp;have fa:=F.a;have fw:=F.w hW;have Kx:=F.z;have fb:=F.bi hW;obtain⟨r1,r2,r3⟩:=(O.DF _ _).mp zr;have wp:=O.Im (n:=(M.aq m o.aP).h) (length:=(M.aq m o.a).h) (s:=o.aE) (same:=o.same) (by rw[<-zh];exact Kx.h0);have ln:=F.na;have lw:=F.lw hW;have li:=F.li hW;have h5a:=fa.me;have h5w:=fw.me;have h5b:=fb.me;have dh:((M.aq m o.bA).data.length:Int)=(M.aq m o.to).c:=by
  rw[li];unfold M.cellsOf;rw[r1,r2,r3];omega
 have cC:=F.dQ.aE;unfold fP at cC;refine⟨adn F hW,⟨fa.h0,fa.h1⟩,⟨fa.w0,fa.w1⟩,⟨fa.c0,fa.c1⟩,⟨fw.h0,fw.h1⟩,⟨fw.w0,fw.w1⟩,⟨fw.c0,fw.c1⟩,ln,lw,?_,?_,⟨wp.1,cC.2⟩,⟨y0,by have:=Kx.h1;omega⟩,⟨x0,by have:=Kx.w1;omega⟩,⟨c0,by have:=Kx.c1;omega⟩,?_,?_,fun k2=>?_,fun k2 k k0 k1=>?_⟩
 ·show la.length<=512;omega
 ·show(M.aq m o.aP).data.length<=512;omega
 ·show c<((M.aq m o.bA).data.length:Int);rw[dh];exact c1
 ·show(M.aq m o.bA).data.length<=512;have:=Kx.c1;omega
 ·have:=dz k2
  show c<(M.aq m o.aP).c/\c<(M.aq m o.a).c;omega
 ·have e:=fz k2
  have:=O.Qs (k:=c) (z:=(M.aq m o.to).c) (n:=k) (c:=(M.aq m o.a).c) c0 c1 k0 k1;show 0<=c*(M.aq m o.a).c+k/\c*(M.aq m o.a).c+k<(M.aq m o.aP).c;rw[e];exact this
theorem wI{t:M.Tn}{l:List Int}{y x c:Int}(hl:(l.length:Int)=t.h*t.w*t.c)(h:D.oc t y x=true)(c0:0<=c)(c1:c<t.c):0<=(y*t.w+x)*t.c+c/\(y*t.w+x)*t.c+c<l.length:=by
 obtain⟨y0,y1,x0,x1⟩:=(O.sM t y x).mp h;rw[hl];exact O.Mf y0 y1 x0 x1 c0 c1
end R
namespace R
structure adS(o:M.Op)(r:D.gD)(y x c:Int)(ns:Nat):Prop where
 sz:o.size=ns
 n1:1<=ns
 n2:ns<=255
 ca:D.kJ r.la
 aw:1<=r.a.w/\r.a.w<=255
 ac:1<=r.a.c/\r.a.c<=255
 OM:r.la.length<=512
 st:1<=o.aE/\o.aE<=255
 yr:0<=y/\y<=255
 xr:0<=x/\x<=255
 cr:0<=c/\c<=255
 ins:∀k:Nat,k<ns*ns->(0<=(k:Int)/ns/\(k:Int)/ns<=255)/\(0<=(k:Int)%ns/\(k:Int)%ns<=255)/\0<=((y*o.aE+(k:Int)/ns)*r.a.w+(x*o.aE+(k:Int)%ns))*r.a.c+c/\((y*o.aE+(k:Int)/ns)*r.a.w+(x*o.aE+(k:Int)%ns))*r.a.c+c<r.la.length
theorem arR{m:M.Md}{o:M.Op}{la lb:List Int}(F:O.jN m o la lb)(hk:o.af=5\/o.af=6){y x c:Int}(y0:0<=y)(y1:y<(M.aq m o.to).h)(x0:0<=x)(x1:x<(M.aq m o.to).w)(c0:0<=c)(c1:c<(M.aq m o.to).c):adS o (O.cY m o la lb) y x c o.size.toNat:=by
 have hp:=(O.vq F.bT).2.2.1 hk;obtain⟨zh,zw,zc⟩:=O.WE hp;have fa:=F.a;have fz:=F.z;have wp:=O.Im (n:=o.size) (length:=(M.aq m o.a).h) (s:=o.aE) (same:=false) (by rw[<-zh];exact fz.h0);have jm:=F.dQ.size;have cC:=F.dQ.aE;unfold fP at jm cC;have wy:=O.Mg (n:=o.size) (length:=(M.aq m o.a).h) (s:=o.aE) (y:=y) wp.1 wp.2.1 y0 (by rw[<-zh];exact y1);have wx:=O.Mg (n:=o.size) (length:=(M.aq m o.a).w) (s:=o.aE) (y:=x) wp.1 wp.2.1 x0 (by rw[<-zw];exact x1);have ln:=F.na;have h5a:=fa.me;obtain⟨ns,hns⟩:=fR (show 0<=o.size by omega);have ens:o.size.toNat=ns:=by omega
 rw[ens];rw[hns] at wy wx wp jm;have ys0:0<=y*o.aE:=kX y0 (by omega);have xs0:0<=x*o.aE:=kX x0 (by omega);refine⟨hns,by omega,by omega,F.ca,⟨fa.w0,fa.w1⟩,⟨fa.c0,fa.c1⟩,?_,⟨wp.1,cC.2⟩,⟨y0,by have:=fz.h1;omega⟩,⟨x0,by have:=fz.w1;omega⟩,⟨c0,by have:=fz.c1;omega⟩,fun k rB=>?_⟩
 ·show la.length<=512;omega
 ·have q0:0<=(k:Int)/ns:=Int.ediv_nonneg (by omega) (by omega)
  have q1:(k:Int)/ns<ns:=by
   refine Int.ediv_lt_of_lt_mul (by omega) ?_
   exact_mod_cast rB
  have r0:0<=(k:Int)%ns:=E7 _ (by omega);have r1:(k:Int)%ns<ns:=E8 _ (by omega);refine⟨by omega,by omega,?_⟩;have:=O.Mf (H:=(M.aq m o.a).h) (W:=(M.aq m o.a).w) (C:=(M.aq m o.a).c) (y:=y*o.aE+(k:Int)/ns) (x:=x*o.aE+(k:Int)%ns) (k:=c) (by omega) (by omega) (by omega) (by omega) c0 (by omega);refine⟨this.1,?_⟩;show _<(la.length:Int);rw[ln];exact this.2
theorem arT{o:M.Op}{r:D.gD}{y x c:Int}{ns:Nat}(h:o.size=ns)(k:Nat):D.iT o r y x c k=D.bN r.a r.la (y*o.aE+(k:Int)/ns) (x*o.aE+(k:Int)%ns) c:=by
 unfold D.iT;rw[h]
theorem arU{r:D.gD}(h:D.kJ r.la)(o:M.Op)(y x c:Int)(k:Nat):-128<=D.iT o r y x c k/\D.iT o r y x c k<=127:=uK h _ _ _
theorem adU(f:Nat->Int)(n:Nat):D.mI f (n+1)=if n=0 then f 0 else if D.mI f n<f n then f n else D.mI f n:=rfl
end R
theorem arV(r gb ga c1 cb p off:Nat)(g:R.bX)(E:List (List Int))(o:M.Op)(na ns:Nat)(rd:D.gD)(y x c:Int)(w:World)(hR:jy w r gb ga c1 cb g E)(hO:jY w p off (R.bJ o))(hk:o.af=5\/o.af=6)
  (dd:(R.bJ o).ins=[(na:Int)]) (pQ:∃a b,(R.bJ o).cO=[o.size,o.aE,a,b]) (ta:g.ts[na]?=some rd.a) (ea:E[na]?=some rd.la) (hW:R.adS o rd y x c ns) :
  Calls prog 154 #[.pointer (some ⟨r,0,none⟩),.pointer (some ⟨p,off,none⟩),.int .i64 y,.int .i64 x,.int .i64 c] w fun e w'=>e=.returned (.int .i64 (if o.af=5 then D.mI (D.iT o rd y x c) (D.yu o) else D.zY (D.S (D.iT o rd y x c) (D.yu o)) (o.size*o.size)))/\w.grownBy w' none:=by
 obtain⟨lC,EH,tA⟩:=pQ;obtain⟨ai,ci,an,cn,o0,o1,o2,o3,hI,hN⟩:=hO;rw[dd] at hI o1;rw[tA] at hN o3;obtain⟨gi,e1,-,-,i0⟩:=hI.get 0 (na:Int) rfl;subst e1;obtain⟨gn,e1,-,-,n0⟩:=hN.get 0 o.size rfl;subst e1;obtain⟨_,e1,-,-,n1⟩:=hN.get 1 o.aE rfl;injection e1 with e1;injection e1 with e1 _ _;subst e1;have vG:([o.size,o.aE,lC,EH]:List Int).length=4:=rfl;rw[vG] at o3;have sX:([(na:Int)]:List Int).length=1:=rfl;rw[sX] at o1;have Ky:((R.bJ o).af:Int)=o.af:=rfl;rw[Ky] at o0;rw[hW.sz] at n0;have HR:=ae hR;have hpn:D.yu o=ns*ns:=by
  unfold D.yu;rw[hW.sz]
  exact_mod_cast ey (ns*ns)
 rw[hpn,hW.sz];have hN2:ns*ns<=65025:=Nat.mul_le_mul hW.n2 hW.n2;have hNp:1<=ns*ns:=Nat.mul_le_mul hW.n1 hW.n1;have OR:((ns:Int)*(ns:Int))=((ns*ns:Nat):Int):=by omega
 have m0:IntKind.i64.wrap ((ns:Int)*(ns:Int))=((ns*ns:Nat):Int):=by rw[OR,cS];omega
 have mys:=O.kO (a:=y) (b:=o.aE) (A:=255) (B:=255) (by have:=hW.yr;omega) (by have:=hW.st;omega);have mxs:=O.kO (a:=x) (b:=o.aE) (A:=255) (B:=255) (by have:=hW.xr;omega) (by have:=hW.st;omega);have Gc:=hW.cr;have vX:Hid (∀(k:Nat) (W:World),k<ns*ns->jy W r gb ga c1 cb g E->Calls prog 150 #[.pointer (some ⟨r,0,none⟩),.int .i64 na,.int .i64 (y*o.aE+(k:Int)/ns),.int .i64 (x*o.aE+(k:Int)%ns),.int .i64 c] W fun e w'=>e=.returned (.int .i64 (D.iT o rd y x c k))/\∃m,w'=W.drewN m):=fun k W ml EI=>by
  obtain⟨q1,q2,q3,q4⟩:=hW.ins k ml;rw[R.arT hW.sz];exact uN r gb ga c1 cb g E na rd.a rd.la _ _ c W EI ta ea (by omega) (by omega) (by omega) ⟨by have:=hW.aw;omega,hW.aw.2⟩ ⟨by have:=hW.ac;omega,hW.ac.2⟩ q3 q4 (by have:=hW.OM;omega)
 have Hq:Hid (∀k:Nat,k<ns*ns->(0<=(k:Int)/ns/\(k:Int)/ns<=255)/\(0<=(k:Int)%ns/\(k:Int)%ns<=255)):=fun k ml=>⟨(hW.ins k ml).1,(hW.ins k ml).2.1⟩;have KD:=ae (fun k=>R.arU hW.ca o y x c k);have axD:=hW.n1;have axE:=hW.n2;have ys_:IntKind.i64.wrap (y*o.aE)=y*o.aE:=by rw[cS];omega
 have xs_:IntKind.i64.wrap (x*o.aE)=x*o.aE:=by rw[cS];omega
 have OS:Hid (∀k:Nat,k<=ns*ns->-128*(k:Int)<=D.S (D.iT o rd y x c) k/\D.S (D.iT o rd y x c) k<=128*k):=fun k ml=>by
  have:=O.Iq (f:=D.iT o rd y x c) (n:=k) (B:=128) fun i _=>by have:=KD.out i;omega
  omega
 have Hm:Hid (∀k:Nat,0<k->-128<=D.mI (D.iT o rd y x c) k/\D.mI (D.iT o rd y x c) k<=127):=fun k h0=>by
  induction k with
  | zero=>omega
  | succ k ih=>
   rw[R.adU]
   split
   ·exact KD.out 0
   ·split
    ·exact KD.out k
    ·exact ih (by omega)
 have O0:=ae o0;have O1:=ae o1;have O3:=ae o3;have I0:=ae i0;have N1:=ae n1;obtain⟨NN,MR⟩:∃n,Hid (ns*ns=n):=⟨_,rfl⟩;rw[MR.out] at hN2 hNp m0 OR vX Hq OS ⊢;obtain⟨f,Hf⟩:∃f,Hid (D.iT o rd y x c=f):=⟨_,rfl⟩;rw[Hf.out] at vX KD OS Hm ⊢;obtain⟨jI,T6⟩:∃v,Hid ((if o.af=5 then D.mI f NN else D.zY (D.S f NN) ((ns:Int)*ns))=v):=⟨_,rfl⟩;rw[T6.out];have hnz:¬(ns:Int)=0:=by omega
 clear hI hN tA hR dd hpn vG sX Ky ta ea hW;go_enter func154,ntmps154;go_wp2;clear o0 o1 o2 o3 i0 n0 n1;go_loopw[12,13,14] (fun sv mv kv wr=>∃k:Nat,k<=NN/\sv=.int .i64 (D.S f k)/\mv=.int .i64 (D.mI f k)/\kv=.int .i64 k/\Hid (w.grownBy wr none)) (fun _ _ kv _=>NN-(intOf kv).toNat)
 case atStart=>exact⟨0,bK _,rfl,rfl,rfl,gL _ _⟩
 case round=>
  obtain⟨k,rB,rfl,rfl,rfl,jH⟩:=hrel;by_cases aK:k<NN
  ·obtain⟨qd,qm⟩:=Hq.out k aK
   have AM:=OS.out k (by omega);have eV:=KD.out k;have o1:=aG jH.out O1.out;have o3:=aG jH.out O3.out;have i0:=aG jH.out I0.out;have n1:=aG jH.out N1.out;have td:Int.tdiv (k:Int) ns=(k:Int)/ns:=Int.tdiv_eq_ediv_of_nonneg (by omega);have tm:Int.tmod (k:Int) ns=(k:Int)%ns:=Int.tmod_eq_emod_of_nonneg (by omega);have HC:=ae (fun nd=>vX.out k (wr.drewN nd) aK ((HR.out.Z jH.out).Z (bF wr nd none)));obtain⟨dq,Hdq⟩:∃v,Hid ((k:Int)/ns=v):=⟨_,rfl⟩;obtain⟨dm,Hdm⟩:∃v,Hid ((k:Int)%ns=v):=⟨_,rfl⟩;rw[Hdq.out] at qd td HC;rw[Hdm.out] at qm tm HC;have wq:IntKind.i64.wrap dq=dq:=by rw[cS];omega
   have wm:IntKind.i64.wrap dm=dm:=by rw[cS];omega
   have wy1:IntKind.i64.wrap (y*o.aE+dq)=y*o.aE+dq:=by rw[cS];omega
   have wx1:IntKind.i64.wrap (x*o.aE+dm)=x*o.aE+dm:=by rw[cS];omega
   go_wp2_with fail;go_quiet (exact Calls.quiet_of (HC.out _));have T7:=ae (aC jH.out (bF wr nq none));have jw:Hid (D.S f (k+1)=D.S f k+f k):=rfl;have nG:=ae (R.adU f k);clear o1 o3 i0 n1 HC td tm wq wm wy1 wx1 qd qm;generalize wr.drewN nq=wq at *;have T8:IntKind.i64.wrap (D.S f k+f k)=D.S f k+f k:=by rw[cS];omega
   obtain⟨sv,mZ⟩:∃v,Hid (D.S f k=v):=⟨_,rfl⟩;rw[mZ.out] at T8 jw ⊢;obtain⟨mv,Hmv⟩:∃v,Hid (D.mI f k=v):=⟨_,rfl⟩;rw[Hmv.out] at nG ⊢;clear AM;by_cases k0:k=0
   ·subst k0
    rw[ay rfl] at nG;obtain⟨fv,T9⟩:∃v,Hid (f 0=v):=⟨_,rfl⟩;rw[T9.out] at T8 jw nG eV ⊢;go_wp2;go_roundw
    case rel=>exact⟨0+1,by omega,by rw[jw.out],by rw[nG.out],by go_num,T7.out⟩
    case measure=>simp[intOf];omega
   ·have b0:((k:Int)==0)=false:=by simp;omega
    rw[ak k0] at nG;obtain⟨fv,T9⟩:∃v,Hid (f k=v):=⟨_,rfl⟩;rw[T9.out] at T8 jw nG eV ⊢;by_cases rO:mv<fv
    ·have v1:decide (fv > mv)=true:=eG rO
     rw[ay rO] at nG;clear rO;go_wp2;go_roundw
     case rel=>exact⟨k+1,by omega,by rw[jw.out],by rw[nG.out],by go_num,T7.out⟩
     case measure=>simp[intOf];omega
    ·have v1:decide (fv > mv)=false:=eD rO
     rw[ak rO] at nG;clear rO;go_wp2;go_roundw
     case rel=>exact⟨k+1,by omega,by rw[jw.out],by rw[nG.out],by go_num,T7.out⟩
     case measure=>simp[intOf];omega
  ·obtain rfl:k=NN:=by omega
   have o0:=aG jH.out O0.out;rcases hk with h5|h6
   ·have b5:(o.af==5)=true:=by simp[h5]
    have si:Hid (jI=D.mI f k):=by rw[<-T6.out];exact ay h5
    clear h5;go_wp2;go_ret;exact⟨cE si.out.symm,jH.out⟩
   ·have b5:(o.af==5)=false:=by simp[h6]
    have AM:=OS.out k (bj _);have adX:=ae (D.ajb (D.S f k) (k:Int));have w2n:IntKind.i64.wrap (2*(ns:Int))=2*(ns:Int):=by rw[cS];omega
    have e2:2*(ns:Int)*(ns:Int)=2*(k:Int):=by rw[Int.mul_assoc,OR]
    have axJ:IntKind.i64.wrap (2*(ns:Int)*(ns:Int))=2*(k:Int):=by rw[e2,cS];omega
    obtain⟨sv,mZ⟩:∃v,Hid (D.S f k=v):=⟨_,rfl⟩;have Gi:Hid (jI=(if sv<0 then -1 else 1)*((2*(if sv<0 then -1 else 1)*sv+(k:Int))/(2*(k:Int)))):=by
     rw[<-T6.out,ak (by omega),OR,adX.out,mZ.out];rfl
    rw[mZ.out] at AM ⊢;clear h6 adX;by_cases adY:sv<0
    ·rw[ay adY] at Gi
     have d0:=FM (2*-1*sv+(k:Int)) (2*(k:Int)) wr (by omega) (by omega) (by omega) (by omega);have q0:0<=(2*-1*sv+(k:Int))/(2*(k:Int)):=Int.ediv_nonneg (by omega) (by omega);have q1:(2*-1*sv+(k:Int))/(2*(k:Int))<=2*-1*sv+(k:Int):=Int.ediv_le_self _ (by omega);have HC:=ae d0;have Ua:IntKind.i64.wrap (-2*sv)=2*-1*sv:=by rw[cS];omega
     have Ub:IntKind.i64.wrap (2*-1*sv+(k:Int))=2*-1*sv+(k:Int):=by rw[cS];omega
     clear d0;obtain⟨fl,Uc⟩:∃v,Hid ((2*-1*sv+(k:Int))/(2*(k:Int))=v):=⟨_,rfl⟩;rw[Uc.out] at HC Gi q0 q1;have ws3:IntKind.i64.wrap (-1*fl) = -1*fl:=by rw[cS];omega
     obtain⟨aa,KE⟩:∃v,Hid (2*-1*sv=v):=⟨_,rfl⟩;rw[KE.out] at HC Ua Ub;go_wp2_with fail;refine HC.out.mono ?_;rintro e wz⟨rfl,KB⟩;subst KB;go_wp2;go_ret;exact⟨cE (by rw[Gi.out];omega),jH.out⟩
    ·rw[ak adY] at Gi
     have d0:=FM (2*1*sv+(k:Int)) (2*(k:Int)) wr (by omega) (by omega) (by omega) (by omega);have q0:0<=(2*1*sv+(k:Int))/(2*(k:Int)):=Int.ediv_nonneg (by omega) (by omega);have q1:(2*1*sv+(k:Int))/(2*(k:Int))<=2*1*sv+(k:Int):=Int.ediv_le_self _ (by omega);have HC:=ae d0;have Ua:IntKind.i64.wrap (2*sv)=2*1*sv:=by rw[cS];omega
     have Ub:IntKind.i64.wrap (2*1*sv+(k:Int))=2*1*sv+(k:Int):=by rw[cS];omega
     clear d0;obtain⟨fl,Uc⟩:∃v,Hid ((2*1*sv+(k:Int))/(2*(k:Int))=v):=⟨_,rfl⟩;rw[Uc.out] at HC Gi q0 q1;obtain⟨aa,KE⟩:∃v,Hid (2*1*sv=v):=⟨_,rfl⟩;rw[KE.out] at HC Ua Ub q1;have wfl:IntKind.i64.wrap fl=fl:=by
      have OT:aa=2*sv:=by rw[<-KE.out];omega
      rw[cS];omega
     have f0:-4611686018427387904<=fl/\fl<=4611686018427387904:=by
      have OT:aa=2*sv:=by rw[<-KE.out];omega
      omega
     clear q0 q1;go_wp2_with fail;refine HC.out.mono ?_;rintro e wz⟨rfl,KB⟩;subst KB;go_wp2;go_ret;exact⟨cE (by rw[Gi.out];omega),jH.out⟩
end Go.Proofs.YtcnhfffgbamonabGreat
