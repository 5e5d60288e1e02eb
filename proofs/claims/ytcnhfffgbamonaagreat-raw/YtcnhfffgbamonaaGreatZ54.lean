import Derived.Test.YtcnhfffgbamonaaGreatZ31
import Derived.Test.YtcnhfffgbamonaaGreatZ53
set_option maxRecDepth 100000
set_option maxHeartbeats 6400000
namespace Go.Proofs.YtcnhfffgbamonaaGreat
open Go.Proofs.Tryz
open RowKit
structure jB(w:World)(r gb ga c1 cb:Nat)(g:R.bX)(E:List (List Int)):Prop where
 p:w.cell? ⟨r,0,none⟩=some (.pointer (some ⟨gb,0,none⟩))
 c:w.cell? ⟨r,1,none⟩=some (.slice (some ⟨cb,0,none⟩) g.ts.length g.ts.length)
 t:tQ w gb ga c1 g
 e:∀(n:Nat) l,E[n]?=some l->∃a cp,w.cell? ⟨cb,n,none⟩=some (.slice a l.length cp)/\Sl w (.slice a l.length cp) l
 pd:g.ts.length<=255
theorem Pj.Z{w w':World}{g off:Nat}{t:M.Tn}(h:Pj w g off t)(hg:w.grownBy w' none):Pj w' g off t:=⟨aG hg h.k,aG hg h.h,aG hg h.v,aG hg h.c,aG hg h.z⟩
theorem jB.Z{w w':World}{r gb ga c1 cb:Nat}{g:R.bX}{E:List (List Int)}(h:jB w r gb ga c1 cb g E)(hg:w.grownBy w' none):jB w' r gb ga c1 cb g E:=
 ⟨aG hg h.p,aG hg h.c,⟨aG hg h.t.q,fun i t ht=>(h.t.t i t ht).Z hg⟩,fun n l hl=>by
  obtain⟨a,cp,h1,h2⟩:=h.e n l hl;exact⟨a,cp,aG hg h1,h2.Z hg⟩,h.pd⟩
theorem uZ(r gb ga c1 cb:Nat)(g:R.bX)(E:List (List Int))(n:Nat)(t:M.Tn)(l:List Int)(y x c:Int)(w:World)(hR:jB w r gb ga c1 cb g E)(ht:g.ts[n]?=some t)(hl:E[n]?=some l)
  (hy:-100000<=y/\y<=100000) (hx:-100000<=x/\x<=100000) (hc:-100000<=c/\c<=100000) (hw:0<=t.w/\t.w<=255) (hk:0<=t.c/\t.c<=255) (h0:0<=(y*t.w+x)*t.c+c) (h1:(y*t.w+x)*t.c+c<l.length) (oF:l.length<=100000):
 Calls prog 127 #[.pointer (some ⟨r,0,none⟩),.int .i64 n,.int .i64 y,.int .i64 x,.int .i64 c] w fun e w'=>e=.returned (.int .i64 (D.bN t l y x c))/\∃m,w'=w.drewN m:=by
 obtain⟨i,hi⟩:=fT h0;have fq:i<l.length:=by omega
 obtain⟨v,hv⟩:∃v,l[i]?=some v:=⟨_,aS fq⟩;have He:Hid (D.bN t l y x c=v):=by unfold Hid D.bN D.get;rw[hi,ak (by omega),eC,List.getD,hv];rfl
 obtain⟨a,cp,d1,hS⟩:=hR.e n l hl;obtain⟨ad,rfl,dv⟩:=hS.get i v hv;have q0:=hR.p;have q1:=hR.c;have q2:=hR.t.q;have hT:=hR.t.t n t ht;have t2:=hT.v;have t3:=hT.c;have fP:=M.bP ht;have wG:=hR.pd;have m1:=O.kR (A:=100000) (B:=255) hy (show -255<=t.w/\t.w<=255 by omega);have m2:=O.kR (a:=y*t.w+x) (A:=25600000) (B:=255) (by omega) (show -255<=t.c/\t.c<=255 by omega);have w1:IntKind.i64.wrap (y*t.w)=y*t.w:=by rw[cU];omega
 have w2:IntKind.i64.wrap (y*t.w+x)=y*t.w+x:=by rw[cU];omega
 have w3:IntKind.i64.wrap ((y*t.w+x)*t.c)=(y*t.w+x)*t.c:=by rw[cU];omega
 have w4:IntKind.i64.wrap ((y*t.w+x)*t.c+c)=(i:Int):=by rw[<-hi,cU];omega
 have acG:l.length<=100000:=oF;clear hR hS hT ht hl hv h0 h1 hi m1 m2 hy hx hc hw hk oF;generalize t.w=tw at *;generalize t.c=tc at *;go_enter func127,ntmps127;go_wp2;go_quiet(fail);go_wp2;go_ret;exact⟨cH He.out.symm,nq,rfl⟩
theorem aeo(r gb ga c1 cb:Nat)(g:R.bX)(E:List (List Int))(n:Nat)(t:M.Tn)(y x:Int)(w:World)(hR:jB w r gb ga c1 cb g E)(ht:g.ts[n]?=some t):
 Calls prog 133 #[.pointer (some ⟨r,0,none⟩),.int .i64 n,.int .i64 y,.int .i64 x] w fun e w'=>e=.returned (.bool (D.oq t y x))/\w'=w:=by
 have q0:=hR.p;have q2:=hR.t.q;have hT:=hR.t.t n t ht;have t1:=hT.h;have t2:=hT.v;have fP:=M.bP ht;have wG:=hR.pd;have He:Hid (D.oq t y x=(decide (0<=y)&&decide (y<t.h)&&decide (0<=x)&&decide (x<t.w))):=rfl;clear hR hT ht;generalize t.h=th at *;generalize t.w=tw at *;by_cases b1:0<=y
 ·by_cases b2:y<th
  ·by_cases b3:0<=x
   ·by_cases b4:x<tw
    ·go_enter func133,ntmps133
     go_wp2;go_ret;exact⟨bB (by rw[He.out,eG b1,eG b2,eG b3,eG b4];rfl),rfl⟩
    ·go_enter func133,ntmps133
     go_wp2;go_ret;exact⟨bB (by rw[He.out,eG b1,eG b2,eG b3,eE (show ¬x<tw by omega)];rfl),rfl⟩
   ·go_enter func133,ntmps133
    go_wp2;go_ret;exact⟨bB (by rw[He.out,eE (show ¬0<=x by omega)];simp),rfl⟩
  ·go_enter func133,ntmps133
   go_wp2;go_ret;exact⟨bB (by rw[He.out,eE (show ¬y<th by omega)];simp),rfl⟩
 ·go_enter func133,ntmps133
  go_wp2;go_ret;exact⟨bB (by rw[He.out,eE (show ¬0<=y by omega)];simp),rfl⟩
theorem Ur(r gb ga c1 cb p off:Nat)(g:R.bX)(E:List (List Int))(o:R.Op)(k nz:Nat)(s m sh lo hi:Int)(z:M.Tn)(w:World)(hR:jB w r gb ga c1 cb g E)(hO:j6 w p off o)
  (hm:o.cO[k]?=some m) (hs:o.cO[k+1]?=some sh) (me:o.cO[o.cO.length-2]?=some lo) (II:o.cO[o.cO.length-1]?=some hi) (hz:g.ts[nz]?=some z) (ho:o.out=nz) (hl:o.cO.length<=8)
  (s0:-2147483648<=s) (s1:s<=2147483648) (m0:0<=m) (m1:m<=2147483647) (h0:-31<=sh) (h1:sh<=30) (z0:-128<=z.zero/\z.zero<=127) (hv:-2147483648<=R.iN s m sh/\R.iN s m sh<=2147483648):
 Calls prog 126 #[.pointer (some ⟨r,0,none⟩),.pointer (some ⟨p,off,none⟩),.int .i64 s,.int .i64 k] w fun e w'=>e=.returned (.int .i64 (R.cW (R.iN s m sh+z.zero) lo hi))/\∃n,w'=w.drewN n:=by
 have q0:=hR.p;have q2:=hR.t.q;have tz:=(hR.t.t nz z hz).z;have fP:=M.bP hz;have wG:=hR.pd;have pz:=M.bP hs;obtain⟨ai,ci,an,cn,-,-,o2,o3,-,hN⟩:=hO;rw[ho] at o2;obtain⟨gn,e1,-,-,dm⟩:=hN.get k m hm;subst e1;obtain⟨_,e1,-,-,ds⟩:=hN.get (k+1) sh hs;injection e1 with e1;injection e1 with e1 _ _;subst e1;obtain⟨_,e1,-,-,Pk⟩:=hN.get _ lo me;injection e1 with e1;injection e1 with e1 _ _;subst e1;obtain⟨_,e1,-,-,Pm⟩:=hN.get _ hi II;injection e1 with e1;injection e1 with e1 _ _;subst e1;have h2:2<=o.cO.length:=by omega
 have jq:=ae (fun nd=>TP s m sh (w.drewN nd) s0 s1 m0 m1 h0 h1);obtain⟨v,Hv⟩:∃v,Hid (R.iN s m sh=v):=⟨_,rfl⟩;rw[Hv.out] at jq hv ⊢;have jd:=ae (fun W=>TO (v+z.zero) lo hi W);obtain⟨q,Hq⟩:∃q,Hid (o.cO.length=q+2):=⟨o.cO.length-2,by unfold Hid;omega⟩;rw[Hq.out] at o3 Pk Pm pz hl;rw[show q+2-2=q by omega] at Pk;rw[show q+2-1=q+1 by omega] at Pm;have w1:IntKind.i64.wrap ((k:Int)+1)=((k+1:Nat):Int):=by rw[cU];omega
 have w2:IntKind.i64.wrap (((q+2:Nat):Int)-2)=(q:Int):=by rw[cU];omega
 have w3:IntKind.i64.wrap (((q+2:Nat):Int)-1)=((q+1:Nat):Int):=by rw[cU];omega
 have w4:IntKind.i64.wrap (v+z.zero)=v+z.zero:=by rw[cU];omega
 have i1:(k:Int)<((q+2:Nat):Int):=by omega
 have i2:((k+1:Nat):Int)<((q+2:Nat):Int):=by omega
 have i3:(q:Int)<((q+2:Nat):Int):=by omega
 have i4:((q+1:Nat):Int)<((q+2:Nat):Int):=by omega
 clear hR hN hm hs me II hz ho s0 s1 m0 m1 h0 h1 hv h2 z0;generalize z.zero=zz at *;go_enter func126,ntmps126;go_wp2_with fail;go_quiet(exact mU (jq.out _));have gq:=bE w nq none;have AR:=aG gq q0;have q2':=aG gq q2;have tz':=aG gq tz;have yq:=aG gq o2;have u9:=aG gq o3;have asD:=aG gq Pk;have asE:=aG gq Pm;clear gq q0 q2 tz o2 o3 Pk Pm dm ds jq;obtain⟨W,HW⟩:∃W,Hid (w.drewN nq=W):=⟨_,rfl⟩;rw[HW.out] at AR q2' tz' yq u9 asD asE ⊢;go_wp2_with fail;go_quiet(exact mU (jd.out _));go_wp2;go_ret;exact⟨rfl,_,by rw[<-HW.out,World.drewN_drewN]⟩
namespace R
structure Win(o:M.Op)(r:D.gH)(y x c:Int):Prop where
 wU:Dk r
 ah:1<=r.a.h/\r.a.h<=255
 aw:1<=r.a.w/\r.a.w<=255
 ac:1<=r.a.c/\r.a.c<=255
 wh:1<=r.w.h/\r.w.h<=255
 ww:1<=r.w.w/\r.w.w<=255
 wc:1<=r.w.c/\r.w.c<=255
 la:(r.la.length:Int)=r.a.h*r.a.w*r.a.c
 lw:(r.lw.length:Int)=r.w.h*r.w.w*r.w.c
 Po:r.la.length<=512
 lw5:r.lw.length<=512
 st:1<=o.aE/\o.aE<=255
 yr:0<=y/\y<=255
 xr:0<=x/\x<=255
 cr:0<=c/\c<=255
 bi:c<r.mM.length
 bl:r.mM.length<=512
 asF:o.af=2->c<r.w.c/\c<r.a.c
 s9:o.af≠2->∀k,0<=k->k<r.a.c->0<=c*r.a.c+k/\c*r.a.c+k<r.w.c
theorem aer(L n s:Int)(same:Bool):∀(f:Nat) (p:Int),0<=placesFrom L n s same f p/\placesFrom L n s same f p<=f
 |0,_=>⟨Int.le_refl _,Int.le_refl _⟩
 |f+1,p=>by
  have ih:=aer L n s same f (p+s);unfold placesFrom
  split
  ·split<;>omega
  ·omega
theorem aes{L n s:Int}(same:Bool)(l0:1<=L)(l1:L<=255)(n0:1<=n)(n1:n<=255)(s0:1<=s)(s1:s<=255):0<=D.kM L n s same/\D.kM L n s same<=65535:=by
 rw[<-D.QT same (by omega) s0 n0];have hp:=aer L n s same L.toNat 0;unfold R.kM;have iJ:0<=gG L n s same/\gG L n s same<=255:=by unfold gG;omega
 generalize gG L n s same=k at *;have m:=O.kR (a:=k-1) (b:=s) (A:=255) (B:=255) (by omega) (by omega);show 0<=(if same=false\/(k-1)*s+n-L<0 then 0 else ((k-1)*s+n-L)/2)/\(if same=false\/(k-1)*s+n-L<0 then 0 else ((k-1)*s+n-L)/2)<=65535
 split<;>omega
theorem asG{m:M.Md}{o:M.Op}{la lb:List Int}(F:O.jQ m o la lb)(hk:o.af=1\/o.af=2){y x c:Int}(y0:0<=y)(y1:y<(M.aq m o.to).h)(x0:0<=x)(x1:x<(M.aq m o.to).w)(c0:0<=c)(c1:c<(M.aq m o.to).c):Win o (O.dd m o la lb) y x c:=by
 have hW:M.cm o.af=true:=by rcases hk with h|h<;>rw[h]<;>rfl
 have cp:=O.Q3 (O.Q4 F.bT hk);obtain⟨zh,zw,zr,dz,fz⟩:=cp;have fa:=F.a;have fw:=F.w hW;have KX:=F.z;have fb:=F.bi hW;obtain⟨r1,r2,r3⟩:=(O.DY _ _).mp zr;have wp:=O.IQ (n:=(M.aq m o.aP).h) (length:=(M.aq m o.a).h) (s:=o.aE) (same:=o.same) (by rw[<-zh];exact KX.h0);have ln:=F.na;have lw:=F.lw hW;have li:=F.li hW;have h5a:=fa.mn;have h5w:=fw.mn;have h5b:=fb.mn;have dh:((M.aq m o.bC).data.length:Int)=(M.aq m o.to).c:=by
  rw[li];unfold M.cellsOf;rw[r1,r2,r3];omega
 have cC:=F.dQ.aE;unfold fQ at cC;refine⟨aei F hW,⟨fa.h0,fa.h1⟩,⟨fa.w0,fa.w1⟩,⟨fa.c0,fa.c1⟩,⟨fw.h0,fw.h1⟩,⟨fw.w0,fw.w1⟩,⟨fw.c0,fw.c1⟩,ln,lw,?_,?_,⟨wp.1,cC.2⟩,⟨y0,by have:=KX.h1;omega⟩,⟨x0,by have:=KX.w1;omega⟩,⟨c0,by have:=KX.c1;omega⟩,?_,?_,fun k2=>?_,fun k2 k k0 k1=>?_⟩
 ·show la.length<=512;omega
 ·show(M.aq m o.aP).data.length<=512;omega
 ·show c<((M.aq m o.bC).data.length:Int);rw[dh];exact c1
 ·show(M.aq m o.bC).data.length<=512;have:=KX.c1;omega
 ·have:=dz k2
  show c<(M.aq m o.aP).c/\c<(M.aq m o.a).c;omega
 ·have e:=fz k2
  have:=O.QZ (k:=c) (z:=(M.aq m o.to).c) (n:=k) (c:=(M.aq m o.a).c) c0 c1 k0 k1;show 0<=c*(M.aq m o.a).c+k/\c*(M.aq m o.a).c+k<(M.aq m o.aP).c;rw[e];exact this
theorem wV{t:M.Tn}{l:List Int}{y x c:Int}(hl:(l.length:Int)=t.h*t.w*t.c)(h:D.oq t y x=true)(c0:0<=c)(c1:c<t.c):0<=(y*t.w+x)*t.c+c/\(y*t.w+x)*t.c+c<l.length:=by
 obtain⟨y0,y1,x0,x1⟩:=(O.s8 t y x).mp h;rw[hl];exact O.MN y0 y1 x0 x1 c0 c1
end R
namespace R
structure aeL(o:M.Op)(r:D.gH)(y x c:Int)(ns:Nat):Prop where
 sz:o.size=ns
 n1:1<=ns
 n2:ns<=255
 ca:D.kq r.la
 aw:1<=r.a.w/\r.a.w<=255
 ac:1<=r.a.c/\r.a.c<=255
 Po:r.la.length<=512
 st:1<=o.aE/\o.aE<=255
 yr:0<=y/\y<=255
 xr:0<=x/\x<=255
 cr:0<=c/\c<=255
 ins:∀k:Nat,k<ns*ns->(0<=(k:Int)/ns/\(k:Int)/ns<=255)/\(0<=(k:Int)%ns/\(k:Int)%ns<=255)/\0<=((y*o.aE+(k:Int)/ns)*r.a.w+(x*o.aE+(k:Int)%ns))*r.a.c+c/\((y*o.aE+(k:Int)/ns)*r.a.w+(x*o.aE+(k:Int)%ns))*r.a.c+c<r.la.length
theorem asV{m:M.Md}{o:M.Op}{la lb:List Int}(F:O.jQ m o la lb)(hk:o.af=5\/o.af=6){y x c:Int}(y0:0<=y)(y1:y<(M.aq m o.to).h)(x0:0<=x)(x1:x<(M.aq m o.to).w)(c0:0<=c)(c1:c<(M.aq m o.to).c):aeL o (O.dd m o la lb) y x c o.size.toNat:=by
 have hp:=(O.vJ F.bT).2.2.1 hk;obtain⟨zh,zw,zc⟩:=O.Xz hp;have fa:=F.a;have fz:=F.z;have wp:=O.IQ (n:=o.size) (length:=(M.aq m o.a).h) (s:=o.aE) (same:=false) (by rw[<-zh];exact fz.h0);have ju:=F.dQ.size;have cC:=F.dQ.aE;unfold fQ at ju cC;have wy:=O.MO (n:=o.size) (length:=(M.aq m o.a).h) (s:=o.aE) (y:=y) wp.1 wp.2.1 y0 (by rw[<-zh];exact y1);have wx:=O.MO (n:=o.size) (length:=(M.aq m o.a).w) (s:=o.aE) (y:=x) wp.1 wp.2.1 x0 (by rw[<-zw];exact x1);have ln:=F.na;have h5a:=fa.mn;obtain⟨ns,hns⟩:=fT (show 0<=o.size by omega);have ens:o.size.toNat=ns:=by omega
 rw[ens];rw[hns] at wy wx wp ju;have ys0:0<=y*o.aE:=lg y0 (by omega);have xs0:0<=x*o.aE:=lg x0 (by omega);refine⟨hns,by omega,by omega,F.ca,⟨fa.w0,fa.w1⟩,⟨fa.c0,fa.c1⟩,?_,⟨wp.1,cC.2⟩,⟨y0,by have:=fz.h1;omega⟩,⟨x0,by have:=fz.w1;omega⟩,⟨c0,by have:=fz.c1;omega⟩,fun k rL=>?_⟩
 ·show la.length<=512;omega
 ·have q0:0<=(k:Int)/ns:=Int.ediv_nonneg (by omega) (by omega)
  have q1:(k:Int)/ns<ns:=by
   refine Int.ediv_lt_of_lt_mul (by omega) ?_
   exact_mod_cast rL
  have r0:0<=(k:Int)%ns:=DS _ (by omega);have r1:(k:Int)%ns<ns:=DU _ (by omega);refine⟨by omega,by omega,?_⟩;have:=O.MN (H:=(M.aq m o.a).h) (W:=(M.aq m o.a).w) (C:=(M.aq m o.a).c) (y:=y*o.aE+(k:Int)/ns) (x:=x*o.aE+(k:Int)%ns) (k:=c) (by omega) (by omega) (by omega) (by omega) c0 (by omega);refine⟨this.1,?_⟩;show _<(la.length:Int);rw[ln];exact this.2
theorem asX{o:M.Op}{r:D.gH}{y x c:Int}{ns:Nat}(h:o.size=ns)(k:Nat):D.iY o r y x c k=D.bN r.a r.la (y*o.aE+(k:Int)/ns) (x*o.aE+(k:Int)%ns) c:=by
 unfold D.iY;rw[h]
theorem asY{r:D.gH}(h:D.kq r.la)(o:M.Op)(y x c:Int)(k:Nat):-128<=D.iY o r y x c k/\D.iY o r y x c k<=127:=uW h _ _ _
theorem aeN(f:Nat->Int)(n:Nat):D.lp f (n+1)=if n=0 then f 0 else if D.lp f n<f n then f n else D.lp f n:=rfl
end R
theorem asZ(r gb ga c1 cb p off:Nat)(g:R.bX)(E:List (List Int))(o:M.Op)(na ns:Nat)(rd:D.gH)(y x c:Int)(w:World)(hR:jB w r gb ga c1 cb g E)(hO:j6 w p off (R.bJ o))(hk:o.af=5\/o.af=6)
  (cY:(R.bJ o).ins=[(na:Int)]) (p8:∃a b,(R.bJ o).cO=[o.size,o.aE,a,b]) (ta:g.ts[na]?=some rd.a) (ea:E[na]?=some rd.la) (hW:R.aeL o rd y x c ns):
 Calls prog 131 #[.pointer (some ⟨r,0,none⟩),.pointer (some ⟨p,off,none⟩),.int .i64 y,.int .i64 x,.int .i64 c] w fun e w'=>e=.returned (.int .i64 (if o.af=5 then D.lp (D.iY o rd y x c) (D.yM o) else D.Aq (D.S (D.iY o rd y x c) (D.yM o)) (o.size*o.size)))/\w.grownBy w' none:=by
 obtain⟨lG,E2,tN⟩:=p8;obtain⟨ai,ci,an,cn,o0,o1,o2,o3,hI,hN⟩:=hO;rw[cY] at hI o1;rw[tN] at hN o3;obtain⟨gi,e1,-,-,i0⟩:=hI.get 0 (na:Int) rfl;subst e1;obtain⟨gn,e1,-,-,n0⟩:=hN.get 0 o.size rfl;subst e1;obtain⟨_,e1,-,-,n1⟩:=hN.get 1 o.aE rfl;injection e1 with e1;injection e1 with e1 _ _;subst e1;have vU:([o.size,o.aE,lG,E2]:List Int).length=4:=rfl;rw[vU] at o3;have tC:([(na:Int)]:List Int).length=1:=rfl;rw[tC] at o1;have KY:((R.bJ o).af:Int)=o.af:=rfl;rw[KY] at o0;rw[hW.sz] at n0;have HR:=ae hR;have hpn:D.yM o=ns*ns:=by
  unfold D.yM;rw[hW.sz]
  exact_mod_cast eC (ns*ns)
 rw[hpn,hW.sz];have hN2:ns*ns<=65025:=Nat.mul_le_mul hW.n2 hW.n2;have hNp:1<=ns*ns:=Nat.mul_le_mul hW.n1 hW.n1;have Ps:((ns:Int)*(ns:Int))=((ns*ns:Nat):Int):=by omega
 have m0:IntKind.i64.wrap ((ns:Int)*(ns:Int))=((ns*ns:Nat):Int):=by rw[Ps,cU];omega
 have mys:=O.kR (a:=y) (b:=o.aE) (A:=255) (B:=255) (by have:=hW.yr;omega) (by have:=hW.st;omega);have mxs:=O.kR (a:=x) (b:=o.aE) (A:=255) (B:=255) (by have:=hW.xr;omega) (by have:=hW.st;omega);have GF:=hW.cr;have wJ:Hid (∀(k:Nat) (W:World),k<ns*ns->jB W r gb ga c1 cb g E->Calls prog 127 #[.pointer (some ⟨r,0,none⟩),.int .i64 na,.int .i64 (y*o.aE+(k:Int)/ns),.int .i64 (x*o.aE+(k:Int)%ns),.int .i64 c] W fun e w'=>e=.returned (.int .i64 (D.iY o rd y x c k))/\∃m,w'=W.drewN m):=fun k W mx E3=>by
  obtain⟨q1,q2,q3,q4⟩:=hW.ins k mx;rw[R.asX hW.sz];exact uZ r gb ga c1 cb g E na rd.a rd.la _ _ c W E3 ta ea (by omega) (by omega) (by omega) ⟨by have:=hW.aw;omega,hW.aw.2⟩ ⟨by have:=hW.ac;omega,hW.ac.2⟩ q3 q4 (by have:=hW.Po;omega)
 have Hq:Hid (∀k:Nat,k<ns*ns->(0<=(k:Int)/ns/\(k:Int)/ns<=255)/\(0<=(k:Int)%ns/\(k:Int)%ns<=255)):=fun k mx=>⟨(hW.ins k mx).1,(hW.ins k mx).2.1⟩;have Lb:=ae (fun k=>R.asY hW.ca o y x c k);have ayK:=hW.n1;have ayL:=hW.n2;have ys_:IntKind.i64.wrap (y*o.aE)=y*o.aE:=by rw[cU];omega
 have xs_:IntKind.i64.wrap (x*o.aE)=x*o.aE:=by rw[cU];omega
 have Pt:Hid (∀k:Nat,k<=ns*ns->-128*(k:Int)<=D.S (D.iY o rd y x c) k/\D.S (D.iY o rd y x c) k<=128*k):=fun k mx=>by
  have:=O.IT (f:=D.iY o rd y x c) (n:=k) (B:=128) fun i _=>by have:=Lb.out i;omega
  omega
 have Hm:Hid (∀k:Nat,0<k->-128<=D.lp (D.iY o rd y x c) k/\D.lp (D.iY o rd y x c) k<=127):=fun k h0=>by
  induction k with
  |zero=>omega
  |succ k ih=>
   rw[R.aeN]
   split
   ·exact Lb.out 0
   ·split
    ·exact Lb.out k
    ·exact ih (by omega)
 have O0:=ae o0;have O1:=ae o1;have O3:=ae o3;have I0:=ae i0;have N1:=ae n1;obtain⟨NN,Nu⟩:∃n,Hid (ns*ns=n):=⟨_,rfl⟩;rw[Nu.out] at hN2 hNp m0 Ps wJ Hq Pt ⊢;obtain⟨f,Hf⟩:∃f,Hid (D.iY o rd y x c=f):=⟨_,rfl⟩;rw[Hf.out] at wJ Lb Pt Hm ⊢;obtain⟨jL,UE⟩:∃v,Hid ((if o.af=5 then D.lp f NN else D.Aq (D.S f NN) ((ns:Int)*ns))=v):=⟨_,rfl⟩;rw[UE.out];have hnz:¬(ns:Int)=0:=by omega
 clear hI hN tN hR cY hpn vU tC KY ta ea hW;go_enter func131,ntmps131;go_wp2;clear o0 o1 o2 o3 i0 n0 n1;go_loopw[12,13,14] (fun sv mv kv wr=>∃k:Nat,k<=NN/\sv=.int .i64 (D.S f k)/\mv=.int .i64 (D.lp f k)/\kv=.int .i64 k/\Hid (w.grownBy wr none)) (fun _ _ kv _=>NN-(intOf kv).toNat)
 case atStart=>exact⟨0,bK _,rfl,rfl,rfl,fZ _ _⟩
 case round=>
  obtain⟨k,rL,rfl,rfl,rfl,jK⟩:=hrel;by_cases aJ:k<NN
  ·obtain⟨qd,qm⟩:=Hq.out k aJ
   have xS:=Pt.out k (by omega);have eW:=Lb.out k;have o1:=aG jK.out O1.out;have o3:=aG jK.out O3.out;have i0:=aG jK.out I0.out;have n1:=aG jK.out N1.out;have td:Int.tdiv (k:Int) ns=(k:Int)/ns:=Int.tdiv_eq_ediv_of_nonneg (by omega);have tm:Int.tmod (k:Int) ns=(k:Int)%ns:=Int.tmod_eq_emod_of_nonneg (by omega);have HC:=ae (fun nd=>wJ.out k (wr.drewN nd) aJ ((HR.out.Z jK.out).Z (bE wr nd none)));obtain⟨dq,Hdq⟩:∃v,Hid ((k:Int)/ns=v):=⟨_,rfl⟩;obtain⟨dm,Hdm⟩:∃v,Hid ((k:Int)%ns=v):=⟨_,rfl⟩;rw[Hdq.out] at qd td HC;rw[Hdm.out] at qm tm HC;have wq:IntKind.i64.wrap dq=dq:=by rw[cU];omega
   have wm:IntKind.i64.wrap dm=dm:=by rw[cU];omega
   have wy1:IntKind.i64.wrap (y*o.aE+dq)=y*o.aE+dq:=by rw[cU];omega
   have wx1:IntKind.i64.wrap (x*o.aE+dm)=x*o.aE+dm:=by rw[cU];omega
   go_wp2_with fail;go_quiet(exact Calls.quiet_of (HC.out _));have UF:=ae (aC jK.out (bE wr nq none));have jA:Hid (D.S f (k+1)=D.S f k+f k):=rfl;have nN:=ae (R.aeN f k);clear o1 o3 i0 n1 HC td tm wq wm wy1 wx1 qd qm;generalize wr.drewN nq=wq at *;have UG:IntKind.i64.wrap (D.S f k+f k)=D.S f k+f k:=by rw[cU];omega
   obtain⟨sv,m9⟩:∃v,Hid (D.S f k=v):=⟨_,rfl⟩;rw[m9.out] at UG jA ⊢;obtain⟨mv,Hmv⟩:∃v,Hid (D.lp f k=v):=⟨_,rfl⟩;rw[Hmv.out] at nN ⊢;clear xS;by_cases k0:k=0
   ·subst k0
    rw[ay rfl] at nN;obtain⟨fv,UH⟩:∃v,Hid (f 0=v):=⟨_,rfl⟩;rw[UH.out] at UG jA nN eW ⊢;go_wp2;go_roundw
    case rel=>exact⟨0+1,by omega,by rw[jA.out],by rw[nN.out],by go_num,UF.out⟩
    case measure=>simp[intOf];omega
   ·have b0:((k:Int)==0)=false:=by simp;omega
    rw[ak k0] at nN;obtain⟨fv,UH⟩:∃v,Hid (f k=v):=⟨_,rfl⟩;rw[UH.out] at UG jA nN eW ⊢;by_cases rX:mv<fv
    ·have v1:decide (fv > mv)=true:=eG rX
     rw[ay rX] at nN;clear rX;go_wp2;go_roundw
     case rel=>exact⟨k+1,by omega,by rw[jA.out],by rw[nN.out],by go_num,UF.out⟩
     case measure=>simp[intOf];omega
    ·have v1:decide (fv > mv)=false:=eE rX
     rw[ak rX] at nN;clear rX;go_wp2;go_roundw
     case rel=>exact⟨k+1,by omega,by rw[jA.out],by rw[nN.out],by go_num,UF.out⟩
     case measure=>simp[intOf];omega
  ·obtain rfl:k=NN:=by omega
   have o0:=aG jK.out O0.out;rcases hk with h5|h6
   ·have b5:(o.af==5)=true:=by simp[h5]
    have sE:Hid (jL=D.lp f k):=by rw[<-UE.out];exact ay h5
    clear h5;go_wp2;go_ret;exact⟨cH sE.out.symm,jK.out⟩
   ·have b5:(o.af==5)=false:=by simp[h6]
    have xS:=Pt.out k (bj _);have aeQ:=ae (D.akd (D.S f k) (k:Int));have w2n:IntKind.i64.wrap (2*(ns:Int))=2*(ns:Int):=by rw[cU];omega
    have e2:2*(ns:Int)*(ns:Int)=2*(k:Int):=by rw[Int.mul_assoc,Ps]
    have ayQ:IntKind.i64.wrap (2*(ns:Int)*(ns:Int))=2*(k:Int):=by rw[e2,cU];omega
    obtain⟨sv,m9⟩:∃v,Hid (D.S f k=v):=⟨_,rfl⟩;have GL:Hid (jL=(if sv<0 then -1 else 1)*((2*(if sv<0 then -1 else 1)*sv+(k:Int))/(2*(k:Int)))):=by
     rw[<-UE.out,ak (by omega),Ps,aeQ.out,m9.out];rfl
    rw[m9.out] at xS ⊢;clear h6 aeQ;by_cases aeR:sv<0
    ·rw[ay aeR] at GL
     have d0:=Gm (2*-1*sv+(k:Int)) (2*(k:Int)) wr (by omega) (by omega) (by omega) (by omega);have q0:0<=(2*-1*sv+(k:Int))/(2*(k:Int)):=Int.ediv_nonneg (by omega) (by omega);have q1:(2*-1*sv+(k:Int))/(2*(k:Int))<=2*-1*sv+(k:Int):=Int.ediv_le_self _ (by omega);have HC:=ae d0;have UI:IntKind.i64.wrap (-2*sv)=2*-1*sv:=by rw[cU];omega
     have UJ:IntKind.i64.wrap (2*-1*sv+(k:Int))=2*-1*sv+(k:Int):=by rw[cU];omega
     clear d0;obtain⟨fl,UK⟩:∃v,Hid ((2*-1*sv+(k:Int))/(2*(k:Int))=v):=⟨_,rfl⟩;rw[UK.out] at HC GL q0 q1;have ws3:IntKind.i64.wrap (-1*fl) = -1*fl:=by rw[cU];omega
     obtain⟨aa,Lc⟩:∃v,Hid (2*-1*sv=v):=⟨_,rfl⟩;rw[Lc.out] at HC UI UJ;go_wp2_with fail;refine HC.out.mono ?_;rintro e wz⟨rfl,K9⟩;subst K9;go_wp2;go_ret;exact⟨cH (by rw[GL.out];omega),jK.out⟩
    ·rw[ak aeR] at GL
     have d0:=Gm (2*1*sv+(k:Int)) (2*(k:Int)) wr (by omega) (by omega) (by omega) (by omega);have q0:0<=(2*1*sv+(k:Int))/(2*(k:Int)):=Int.ediv_nonneg (by omega) (by omega);have q1:(2*1*sv+(k:Int))/(2*(k:Int))<=2*1*sv+(k:Int):=Int.ediv_le_self _ (by omega);have HC:=ae d0;have UI:IntKind.i64.wrap (2*sv)=2*1*sv:=by rw[cU];omega
     have UJ:IntKind.i64.wrap (2*1*sv+(k:Int))=2*1*sv+(k:Int):=by rw[cU];omega
     clear d0;obtain⟨fl,UK⟩:∃v,Hid ((2*1*sv+(k:Int))/(2*(k:Int))=v):=⟨_,rfl⟩;rw[UK.out] at HC GL q0 q1;obtain⟨aa,Lc⟩:∃v,Hid (2*1*sv=v):=⟨_,rfl⟩;rw[Lc.out] at HC UI UJ q1;have wfl:IntKind.i64.wrap fl=fl:=by
      have Pu:aa=2*sv:=by rw[<-Lc.out];omega
      rw[cU];omega
     have f0:-4611686018427387904<=fl/\fl<=4611686018427387904:=by
      have Pu:aa=2*sv:=by rw[<-Lc.out];omega
      omega
     clear q0 q1;go_wp2_with fail;refine HC.out.mono ?_;rintro e wz⟨rfl,K9⟩;subst K9;go_wp2;go_ret;exact⟨cH (by rw[GL.out];omega),jK.out⟩
end Go.Proofs.YtcnhfffgbamonaaGreat
