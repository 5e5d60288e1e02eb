import Derived.Test.YtcnhfffgbamonabGreatZ32
set_option maxRecDepth 100000
set_option maxHeartbeats 6400000
namespace Go.Proofs.YtcnhfffgbamonabGreat
open Go.Proofs.Tryz
namespace R
theorem Db{α:Type}{l:List α}(h:l.length=1):∃a,l=[a]:=by
 match l,h with
 | [a],_=>exact⟨a,rfl⟩
theorem ar2{o:M.Op}(h:kK o)(hk:o.af=1\/o.af=2):∃s,o.bM=[s]/\tU s/\(bJ o).cO=[o.aE,if o.same=true then 1 else 0,s.eE,s.shift,o.lo,o.hi]:=by
 have hl:o.bM.length=1:=by rw[h.bM];rcases hk with k|k<;>rw[k]<;>rfl
 obtain⟨s,hs⟩:=Db hl;refine⟨s,hs,h.gE s (by rw[hs];simp),?_⟩;show iF o=_;unfold iF;rw[hs,ay hk,ay (show 1<=o.af/\o.af<=7 by omega)]
 rfl
theorem ar3{o:M.Op}(h:kK o)(hk:o.af=3):∃s,o.bM=[s]/\tU s/\(bJ o).cO=[s.eE,s.shift,o.lo,o.hi]:=by
 have hl:o.bM.length=1:=by rw[h.bM,hk];rfl
 obtain⟨s,hs⟩:=Db hl;refine⟨s,hs,h.gE s (by rw[hs];simp),?_⟩;show iF o=_;unfold iF;rw[hs,ak (by omega),ak (by omega),ak (by omega),ay (by omega)]
 rfl
theorem ar4{o:M.Op}(h:kK o)(hk:o.af=4):∃s t u,o.bM=[s,t,u]/\tU s/\tU t/\tU u/\(bJ o).cO=[s.eE,s.shift,t.eE,t.shift,u.eE,u.shift,o.lo,o.hi]:=by
 have hl:o.bM.length=3:=by rw[h.bM,hk];rfl
 obtain⟨s,t,u,hs⟩:=acO hl;refine⟨s,t,u,hs,h.gE s (by rw[hs];simp),h.gE t (by rw[hs];simp),h.gE u (by rw[hs];simp),?_⟩;show iF o=_;unfold iF;rw[hs,ak (by omega),ak (by omega),ak (by omega),ay (by omega)]
 rfl
theorem Ud{o:M.Op}(h:kK o)(h1:M.cm o.af=false)(h4:o.af≠4):o.bM=[]:=by
 have hl:o.bM.length=0:=by rw[h.bM,ak (by rw[h1];decide),ak h4]
 exact List.eq_nil_of_length_eq_zero hl
theorem ar5{o:M.Op}(h:kK o)(hk:o.af=5\/o.af=6):(bJ o).cO=[o.size,o.aE,o.lo,o.hi]:=by
 have hs:=Ud h (by rcases hk with k|k<;>rw[k]<;>rfl) (by omega);show iF o=_;unfold iF;rw[hs,ak (by omega),ay hk,ay (by omega)]
 rfl
theorem ar6{o:M.Op}(h:kK o)(hk:o.af=7):(bJ o).cO=[o.lo,o.hi]:=by
 have hs:=Ud h (by rw[hk];rfl) (by omega);show iF o=_;unfold iF;rw[hs,ak (by omega),ak (by omega),ak (by omega),ay (by omega)]
 rfl
theorem ar7{o:M.Op}(h:kK o)(hk:o.af=8):(bJ o).cO=[o.aS,o.below,o.left,o.right]:=by
 have hs:=Ud h (by rw[hk];rfl) (by omega);show iF o=_;unfold iF;rw[hs,ak (by omega),ak (by omega),ay hk,ak (by omega)]
 rfl
structure zA(m:M.Md)(E:List (List Int))(o:M.Op)(la lb:List Int):Prop where
 F:O.jN m o la lb
 a:∃na:Nat,o.a=na/\m.au[na]?=some (M.aq m o.a)/\E[na]?=some la
 b:M.dr o.af=true->∃nb:Nat,o.b=nb/\m.au[nb]?=some (M.aq m o.b)/\E[nb]?=some lb
 ws:M.cm o.af=true->∃nw ni:Nat,o.aP=nw/\o.bA=ni/\m.au[nw]?=some (M.aq m o.aP)/\m.au[ni]?=some (M.aq m o.bA)/\E[nw]?=some (M.aq m o.aP).data/\E[ni]?=some (M.aq m o.bA).data
 z:∃nz:Nat,o.to=nz/\m.au[nz]?=some (M.aq m o.to)
 ka:0<=(M.aq m o.a).af/\(M.aq m o.a).af<=3
theorem KF{c:M.Sc}(h:tU c)(hq:M.rj c=true):0<=c.eE/\c.eE<=2147483647/\-31<=c.shift/\c.shift<=30:=by
 have:=(FZ h).mp hq;have:=h.m1;omega
theorem BQ{x:Int}{c:M.Sc}(h:-31<=c.shift):-2147483648<=R.iL x c.eE c.shift/\R.iL x c.eE c.shift<=2147483648:=by
 rw[<-O.Mc];exact O.BQ h
theorem ar8{m:M.Md}{o:M.Op}{la lb:List Int}(F:O.jN m o la lb)(hk:o.af=1\/o.af=2){y x c:Int}(c0:0<=c)(c1:c<(M.aq m o.to).c):-1090453504<=D.tS o (O.cY m o la lb) y x c/\D.tS o (O.cY m o la lb) y x c<=1090453504:=by
 have hW:M.cm o.af=true:=by rcases hk with h|h<;>rw[h]<;>rfl
 rw[<-O.WC F hk c0 c1];have ew:(O.start m o la lb).aP=O.eZ (M.aq m o.aP) (M.aq m o.aP).data:=ay hW;have wn:=F.lN hk;have ac:=F.a.c0;refine F.ok.vk y x c _ _ _ ?_ ?_
 ·rw[ew]
  show(M.aq m o.aP).h*(M.aq m o.aP).w*((if o.af=1 then (M.aq m o.a).c else c+1)-(if o.af=1 then 0 else c))<=512;rcases hk with h|h
  ·rw[ay h,ay h,Int.sub_zero];rw[ay h] at wn;exact wn
  ·rw[ak (by omega),ak (by omega),show c+1-c=1 by omega];rw[ak (by omega)] at wn;exact wn
 ·rcases hk with h|h
  ·rw[ay h,ay h];omega
  ·rw[ak (by omega),ak (by omega)];omega
end R
open Go.RowKit
def Bc(g:R.bX)(m:M.Md):Prop:=g.ts=m.au
theorem KG{m:M.Md}{o:M.Op}{la lb:List Int}(F:O.jN m o la lb){s:M.Sc}(hs:s∈o.bM):M.rj s=true:=by
 have h:=F.ua;unfold M.lG at h;rw[fh,fh,jg] at h;exact h.1.2 s hs
theorem adZ(r gb ga c1 cb p off:Nat)(g:R.bX)(E:List (List Int))(m:M.Md)(o:M.Op)(la lb:List Int)(y x c:Int)(w:World)(hR:jy w r gb ga c1 cb g E)(hO:jY w p off (R.bJ o))(hg:Bc g m)(hD:R.zA m E o la lb)(hk:o.af=1\/o.af=2)
  (y0:0<=y) (y1:y<(M.aq m o.to).h) (x0:0<=x) (x1:x<(M.aq m o.to).w) (k0:0<=c) (k1:c<(M.aq m o.to).c) :
  Calls prog 118 #[.pointer (some ⟨r,0,none⟩),.pointer (some ⟨p,off,none⟩),.int .i64 y,.int .i64 x,.int .i64 c] w fun e w'=>e=.returned (.int .i64 (D.cell o (O.cY m o la lb) y x c))/\w.grownBy w' none:=by
 have F:=hD.F;have hW:M.cm o.af=true:=by rcases hk with h|h<;>rw[h]<;>rfl
 obtain⟨na,ea,ta,lC⟩:=hD.a;obtain⟨nw,ni,ew,ei,tw,ti,KH,KI⟩:=hD.ws hW;obtain⟨nz,ez,tz⟩:=hD.z;rw[<-hg] at ta tw ti tz;obtain⟨s,hs,fs,hn⟩:=R.ar2 F.dQ hk;have sq:=R.KF fs (KG F (by rw[hs];simp));have ad0:=R.arC F hk y0 y1 x0 x1 k0 k1;have xH:=ae (arE r gb ga c1 cb p off g E o na nw ni (M.aq m o.bA) (O.cY m o la lb) y x c w hR hO (by rw[R.zj hW,ea,ew,ei]) ⟨[s.eE,s.shift,o.lo,o.hi],hn,rfl⟩ ta tw ti lC KH KI (by have f:=F.bi hW;exact⟨by have:=f.w0;omega,f.w1,by have:=f.c0;omega,f.c1⟩) ad0);have wr:=R.ar8 F hk (y:=y) (x:=x) k0 k1;have He:=ae (D.LN (O.cY m o la lb) y x c hk);have Hq:Hid (D.tT o (O.cY m o la lb) (D.tS o (O.cY m o la lb) y x c) 0=R.cU (R.iL (D.tS o (O.cY m o la lb) y x c) s.eE s.shift+(M.aq m o.to).zero) o.lo o.hi):=by
  unfold Hid D.tT D.jC D.BJ;rw[hs];rfl
 obtain⟨sv,mZ⟩:∃v,Hid (D.tS o (O.cY m o la lb) y x c=v):=⟨_,rfl⟩;rw[mZ.out] at wr xH Hq He;have sj:=ae (fun(W:World) (EI:jy W r gb ga c1 cb g E) (KJ:jY W p off (R.bJ o))=>TO r gb ga c1 cb p off g E (R.bJ o) 2 nz sv s.eE s.shift o.lo o.hi (M.aq m o.to) W EI KJ (by rw[hn];rfl) (by rw[hn];rfl) (by rw[hn];rfl) (by rw[hn];rfl) tz ez (by rw[hn];simp) (by omega) (by omega) sq.1 sq.2.1 sq.2.2.1 sq.2.2.2 ⟨F.z.z0,F.z.z1⟩ (R.BQ sq.2.2.1));obtain⟨jI,si⟩:∃v,Hid (R.cU (R.iL sv s.eE s.shift+(M.aq m o.to).zero) o.lo o.hi=v):=⟨_,rfl⟩;rw[si.out] at sj Hq;rw[He.out,Hq.out];have HR:=ae hR;have HO:=ae hO;obtain⟨ai,ci,an,cn,o0,-⟩:=hO;have sr:w.cell? ⟨p,off,none⟩=some (.int .i64 o.af):=o0;clear o0 hR hD F hg ta tw ti tz lC KH KI hn sq fs hs ad0 wr y0 y1 x0 x1 k0 k1 ea ew ei ez He Hq;rcases hk with hk|hk
 ·rw[hk] at sr
  go_enter func118,ntmps118;go_wp2_with fail;refine xH.out.mono ?_;rintro e w1⟨rfl,g1⟩;have G1:=ae g1;clear g1 sr;go_wp2_with fail;refine(sj.out w1 (HR.out.Z G1.out) (HO.out.Z G1.out)).mono ?_;rintro e w2⟨rfl,nd,rfl⟩;go_wp2;go_ret;exact⟨rfl,aC G1.out (bF _ _ _)⟩
 ·rw[hk] at sr
  go_enter func118,ntmps118;go_wp2_with fail;refine xH.out.mono ?_;rintro e w1⟨rfl,g1⟩;have G1:=ae g1;clear g1 sr;go_wp2_with fail;refine(sj.out w1 (HR.out.Z G1.out) (HO.out.Z G1.out)).mono ?_;rintro e w2⟨rfl,nd,rfl⟩;go_wp2;go_ret;exact⟨rfl,aC G1.out (bF _ _ _)⟩
theorem ad1(r gb ga c1 cb p off:Nat)(g:R.bX)(E:List (List Int))(m:M.Md)(o:M.Op)(la lb:List Int)(y x c:Int)(w:World)(hR:jy w r gb ga c1 cb g E)(hO:jY w p off (R.bJ o))(hg:Bc g m)(hD:R.zA m E o la lb)(hk:o.af=5\/o.af=6)
  (y0:0<=y) (y1:y<(M.aq m o.to).h) (x0:0<=x) (x1:x<(M.aq m o.to).w) (k0:0<=c) (k1:c<(M.aq m o.to).c) :
  Calls prog 118 #[.pointer (some ⟨r,0,none⟩),.pointer (some ⟨p,off,none⟩),.int .i64 y,.int .i64 x,.int .i64 c] w fun e w'=>e=.returned (.int .i64 (D.cell o (O.cY m o la lb) y x c))/\w.grownBy w' none:=by
 have F:=hD.F;obtain⟨na,ea,ta,lC⟩:=hD.a;rw[<-hg] at ta;have hn:=R.ar5 F.dQ hk;have hp:=R.arR F hk y0 y1 x0 x1 k0 k1;have dd:(R.bJ o).ins=[(na:Int)]:=by rw[R.CW (by rcases hk with h|h<;>rw[h]<;>decide) (by rcases hk with h|h<;>rw[h]<;>decide),ea]
 have xH:=ae (arV r gb ga c1 cb p off g E o na o.size.toNat (O.cY m o la lb) y x c w hR hO hk dd ⟨o.lo,o.hi,hn⟩ ta lC hp);obtain⟨sv,mZ⟩:∃v,Hid ((if o.af=5 then D.mI (D.iT o (O.cY m o la lb) y x c) (D.yu o) else D.zY (D.S (D.iT o (O.cY m o la lb) y x c) (D.yu o)) (o.size*o.size))=v):=⟨_,rfl⟩;have He:Hid (D.cell o (O.cY m o la lb) y x c=R.cU sv o.lo o.hi):=by
  unfold Hid;rw[<-mZ.out];rcases hk with h|h
  ·rw[D.LQ _ _ _ _ h,ay h]
  ·rw[D.LR _ _ _ _ h,ak (by omega)]
 rw[mZ.out] at xH;rw[He.out];have sj:=ae (fun W=>Te sv o.lo o.hi W);obtain⟨jI,si⟩:∃v,Hid (R.cU sv o.lo o.hi=v):=⟨_,rfl⟩;rw[si.out] at sj ⊢;obtain⟨ai,ci,an,cn,o0,o1,o2,o3,hI,hN⟩:=hO;have sr:w.cell? ⟨p,off,none⟩=some (.int .i64 o.af):=o0;rw[hn] at o3 hN;have uO:w.cell? ⟨p,off+3,none⟩=some (.slice an 4 cn):=o3;obtain⟨gn,e1,-,-,n2⟩:=hN.get 2 o.lo rfl;subst e1;obtain⟨_,e1,-,-,n3⟩:=hN.get 3 o.hi rfl;injection e1 with e1;injection e1 with e1 _ _;subst e1;have O3:=ae uO;have N2:=ae n2;have N3:=ae n3;clear o0 o1 o2 o3 uO n2 n3 hI hN hR hD F hg ta lC hn hp dd y0 y1 x0 x1 k0 k1 ea He mZ;rcases hk with hk|hk
 all_goals
  rw[hk] at sr;clear hk;go_enter func118,ntmps118;go_wp2_with fail;refine xH.out.mono ?_;rintro e w1⟨rfl,g1⟩;have G1:=ae g1;have q3:=aG g1 O3.out;have d2:=aG g1 N2.out;have d3:=aG g1 N3.out;clear g1 sr;go_wp2_with fail;go_quiet (exact mQ (sj.out _));go_wp2;go_ret;exact⟨rfl,aC G1.out (bF _ _ _)⟩
theorem ar9(r gb ga c1 cb p off:Nat)(g:R.bX)(E:List (List Int))(m:M.Md)(o:M.Op)(la lb:List Int)(y x c:Int)(w:World)(hR:jy w r gb ga c1 cb g E)(hO:jY w p off (R.bJ o))(hg:Bc g m)(hD:R.zA m E o la lb)(hk:o.af=7)
  (y0:0<=y) (y1:y<(M.aq m o.to).h) (x0:0<=x) (x1:x<(M.aq m o.to).w) (k0:0<=c) (k1:c<(M.aq m o.to).c) :
  Calls prog 118 #[.pointer (some ⟨r,0,none⟩),.pointer (some ⟨p,off,none⟩),.int .i64 y,.int .i64 x,.int .i64 c] w fun e w'=>e=.returned (.int .i64 (D.cell o (O.cY m o la lb) y x c))/\w.grownBy w' none:=by
 have F:=hD.F;obtain⟨na,ea,ta,lC⟩:=hD.a;rw[<-hg] at ta;have hn:=R.ar6 F.dQ hk;have dd:(R.bJ o).ins=[(na:Int)]:=by rw[R.CW (by rw[hk];decide) (by rw[hk];decide),ea]
 obtain⟨a1,a2,a3⟩:=(O.z9 _ _).mp ((O.vq F.bT).2.1 hk);have fa:=F.a;have ya:la.length<=512:=by have:=F.na;have:=fa.me;omega
 have hi:=R.wI (t:=M.aq m o.a) (l:=la) (y:=y) (x:=x) (c:=c) F.na ((O.sM _ _ _).mpr ⟨y0,by omega,x0,by omega⟩) k0 (by omega);have xH:=ae (uN r gb ga c1 cb g E na (M.aq m o.a) la y x c w hR ta lC (by have:=fa.h1;omega) (by have:=fa.w1;omega) (by have:=fa.c1;omega) ⟨by have:=fa.w0;omega,fa.w1⟩ ⟨by have:=fa.c0;omega,fa.c1⟩ hi.1 hi.2 (by omega));have He:=ae (D.E4 (O.cY m o la lb) y x c hk);obtain⟨sv,mZ⟩:∃v,Hid (D.bN (M.aq m o.a) la y x c=v):=⟨_,rfl⟩;have kx:Hid (D.cell o (O.cY m o la lb) y x c=R.cU sv o.lo o.hi):=by unfold Hid;rw[He.out,<-mZ.out];rfl
 rw[mZ.out] at xH;rw[kx.out];have sj:=ae (fun W=>Te sv o.lo o.hi W);obtain⟨jI,si⟩:∃v,Hid (R.cU sv o.lo o.hi=v):=⟨_,rfl⟩;rw[si.out] at sj ⊢;obtain⟨ai,ci,an,cn,o0,o1,o2,o3,hI,hN⟩:=hO;have sr:w.cell? ⟨p,off,none⟩=some (.int .i64 7):=by rw[<-hk];exact o0
 rw[hn] at o3 hN;rw[dd] at o1 hI;have uO:w.cell? ⟨p,off+3,none⟩=some (.slice an 2 cn):=o3;have uP:w.cell? ⟨p,off+1,none⟩=some (.slice ai 1 ci):=o1;obtain⟨gi,e1,-,-,i0⟩:=hI.get 0 (na:Int) rfl;subst e1;obtain⟨gn,e1,-,-,n2⟩:=hN.get 0 o.lo rfl;subst e1;obtain⟨_,e1,-,-,n3⟩:=hN.get 1 o.hi rfl;injection e1 with e1;injection e1 with e1 _ _;subst e1;have O3:=ae uO;have N2:=ae n2;have N3:=ae n3;clear o0 o1 o2 o3 uO n2 n3 hI hN hR hD F hg ta lC hn dd y0 y1 x0 x1 k0 k1 ea He kx mZ hk a1 a2 a3 fa ya hi;go_enter func118,ntmps118;go_wp2_with fail;refine xH.out.mono ?_;rintro e w1⟨rfl,nd,rfl⟩;have G1:=ae (bF w nd none);have q3:=aG G1.out O3.out;have d2:=aG G1.out N2.out;have d3:=aG G1.out N3.out;clear sr uP i0;generalize w.drewN nd=w1 at *;go_wp2_with fail;go_quiet (exact mQ (sj.out _));go_wp2;go_ret;exact⟨rfl,aC G1.out (bF _ _ _)⟩
theorem asa(r gb ga c1 cb p off:Nat)(g:R.bX)(E:List (List Int))(m:M.Md)(o:M.Op)(la lb:List Int)(y x c:Int)(w:World)(hR:jy w r gb ga c1 cb g E)(hO:jY w p off (R.bJ o))(hg:Bc g m)(hD:R.zA m E o la lb)(hk:o.af=8)
  (y0:0<=y) (y1:y<(M.aq m o.to).h) (x0:0<=x) (x1:x<(M.aq m o.to).w) (k0:0<=c) (k1:c<(M.aq m o.to).c) :
  Calls prog 118 #[.pointer (some ⟨r,0,none⟩),.pointer (some ⟨p,off,none⟩),.int .i64 y,.int .i64 x,.int .i64 c] w fun e w'=>e=.returned (.int .i64 (D.cell o (O.cY m o la lb) y x c))/\w.grownBy w' none:=by
 have F:=hD.F;obtain⟨na,ea,ta,lC⟩:=hD.a;obtain⟨nz,ez,tz⟩:=hD.z;rw[<-hg] at ta tz;have hn:=R.ar7 F.dQ hk;have dd:(R.bJ o).ins=[(na:Int)]:=by rw[R.CW (by rw[hk];decide) (by rw[hk];decide),ea]
 obtain⟨a1,a2,a3⟩:=(O.vq F.bT).2.2.2.1 hk;have fa:=F.a;have fz:=F.z;have b1:=F.dQ.aS;have b2:=F.dQ.below;have b3:=F.dQ.left;have b4:=F.dQ.right;unfold fP at b1 b2 b3 b4;have ya:la.length<=512:=by have:=F.na;have:=fa.me;omega
 have He:=ae (D.LS (O.cY m o la lb) y x c hk);have TZ:=ae (fun W h=>adt r gb ga c1 cb g E na (M.aq m o.a) (y-o.aS) (x-o.left) W h ta);have w1:IntKind.i64.wrap (y-o.aS)=y-o.aS:=by rw[cS];have:=fz.h1;omega
 have w2:IntKind.i64.wrap (x-o.left)=x-o.left:=by rw[cS];have:=fz.w1;omega
 have HR:=ae hR;have q0:=hR.p;have q2:=hR.t.q;have zz:=(hR.t.t nz _ tz).z;have vV:=M.bP tz;have vU:=hR.oX;obtain⟨ai,ci,an,cn,o0,o1,o2,o3,hI,hN⟩:=hO;have sr:w.cell? ⟨p,off,none⟩=some (.int .i64 8):=by rw[<-hk];exact o0
 rw[hn] at o3 hN;rw[dd] at o1 hI;have uO:w.cell? ⟨p,off+3,none⟩=some (.slice an 4 cn):=o3;have uP:w.cell? ⟨p,off+1,none⟩=some (.slice ai 1 ci):=o1;have x9:w.cell? ⟨p,off+2,none⟩=some (.int .i64 nz):=by rw[<-ez];exact o2
 obtain⟨gi,e1,-,-,i0⟩:=hI.get 0 (na:Int) rfl;subst e1;obtain⟨gn,e1,-,-,n0⟩:=hN.get 0 o.aS rfl;subst e1;obtain⟨_,e1,-,-,n2⟩:=hN.get 2 o.left rfl;injection e1 with e1;injection e1 with e1 _ _;subst e1;have O1:=ae uP;have O2:=ae x9;have O3:=ae uO;have I0:=ae i0;have N0:=ae n0;have N2:=ae n2;have Q0:=ae q0;have Q2:=ae q2;have ZZ:=ae zz;have HC:=ae (fun nd=>TZ.out (w.drewN nd) (HR.out.Z (bF w nd none)));have tF:Hid (D.cell o (O.cY m o la lb) y x c=if D.oc (M.aq m o.a) (y-o.aS) (x-o.left)=true then D.bN (M.aq m o.a) la (y-o.aS) (x-o.left) c else (M.aq m o.to).zero):=He.out;have vX:Hid (D.oc (M.aq m o.a) (y-o.aS) (x-o.left)=true->∀(W:World),jy W r gb ga c1 cb g E->Calls prog 150 #[.pointer (some ⟨r,0,none⟩),.int .i64 na,.int .i64 (y-o.aS),.int .i64 (x-o.left),.int .i64 c] W fun e w'=>e=.returned (.int .i64 (D.bN (M.aq m o.a) la (y-o.aS) (x-o.left) c))/\∃n,w'=W.drewN n):=fun hi W hW=>by
  have i:=R.wI (t:=M.aq m o.a) (l:=la) (c:=c) F.na hi k0 (by omega);exact uN r gb ga c1 cb g E na (M.aq m o.a) la (y-o.aS) (x-o.left) c W hW ta lC (by have:=fz.h1;omega) (by have:=fz.w1;omega) (by have:=fa.c1;omega) ⟨by have:=fa.w0;omega,fa.w1⟩ ⟨by have:=fa.c0;omega,fa.c1⟩ i.1 i.2 (by omega)
 obtain⟨jI,si⟩:∃v,Hid (D.cell o (O.cY m o la lb) y x c=v):=⟨_,rfl⟩;rw[si.out] at tF ⊢;obtain⟨bi,Hbi⟩:∃b,Hid (D.oc (M.aq m o.a) (y-o.aS) (x-o.left)=b):=⟨_,rfl⟩;obtain⟨av,Ue⟩:∃v,Hid (D.bN (M.aq m o.a) la (y-o.aS) (x-o.left) c=v):=⟨_,rfl⟩;rw[Hbi.out] at HC tF vX;rw[Ue.out] at tF vX;clear o0 o1 o2 o3 uO x9 hI hN hR hD F hg ta tz lC hn dd y0 y1 x0 x1 k0 k1 ea ez He hk a1 a2 a3 fa fz ya b1 b2 b3 b4 q0 q2 zz;generalize (M.aq m o.to).zero=zv at *;have uO:=O3.out;go_enter func118,ntmps118;go_wp2_with fail;go_quiet (exact mQ (HC.out _));have G1:=ae (bF w nq none);clear sr uP i0 n0 n2 uO HC;have R1:=ae (HR.out.Z G1.out);have uP:=aG G1.out O1.out;have x9:=aG G1.out O2.out;have uO:=aG G1.out O3.out;have i0:=aG G1.out I0.out;have n0:=aG G1.out N0.out;have n2:=aG G1.out N2.out;have q0:=aG G1.out Q0.out;have q2:=aG G1.out Q2.out;have zz:=aG G1.out ZZ.out;generalize w.drewN nq=w1 at *
 cases bi with
 | false=>
  have Hr:Hid (zv=jI):=by unfold Hid;rw[tF.out];rfl
  go_wp2;go_quiet (fail);go_wp2;go_ret;exact⟨cE Hr.out,aC G1.out (bF _ _ _)⟩
 | true=>
  have Hr:Hid (av=jI):=by unfold Hid;rw[tF.out];rfl
  have HC:=ae (fun nd=>vX.out rfl (w1.drewN nd) (R1.out.Z (bF w1 nd none)));go_wp2_with fail;go_quiet (exact Calls.quiet_of (HC.out _));go_wp2;go_ret;exact⟨cE Hr.out,aC G1.out (bF _ _ _)⟩
theorem asc(r gb ga c1 cb p off:Nat)(g:R.bX)(E:List (List Int))(m:M.Md)(o:M.Op)(la lb:List Int)(y x c:Int)(w:World)(hR:jy w r gb ga c1 cb g E)(hO:jY w p off (R.bJ o))(hg:Bc g m)(hD:R.zA m E o la lb)(hk:o.af=10)
  (y0:0<=y) (y1:y<(M.aq m o.to).h) (x0:0<=x) (x1:x<(M.aq m o.to).w) (k0:0<=c) (k1:c<(M.aq m o.to).c) :
  Calls prog 118 #[.pointer (some ⟨r,0,none⟩),.pointer (some ⟨p,off,none⟩),.int .i64 y,.int .i64 x,.int .i64 c] w fun e w'=>e=.returned (.int .i64 (D.cell o (O.cY m o la lb) y x c))/\w.grownBy w' none:=by
 have F:=hD.F;have h2:M.dr o.af=true:=by rw[hk];rfl
 obtain⟨na,ea,ta,lC⟩:=hD.a;obtain⟨nb,eb,tb,EH⟩:=hD.b h2;rw[<-hg] at ta tb;have dd:(R.bJ o).ins=[(na:Int),(nb:Int)]:=by rw[R.CV h2,ea,eb]
 obtain⟨a1,a2,a3,a4,a5⟩:=(O.vq F.bT).2.2.2.2.2 hk;have fa:=F.a;have fb:=F.b h2;have fz:=F.z;have ya:la.length<=512:=by have:=F.na;have:=fa.me;omega
 have qh:lb.length<=512:=by have:=F.nb h2;have:=fb.me;omega
 have He:=ae (D.LV (O.cY m o la lb) y x c hk);have tF:Hid (D.cell o (O.cY m o la lb) y x c=if c<(M.aq m o.a).c then D.bN (M.aq m o.a) la y x c else D.bN (M.aq m o.b) lb y x (c-(M.aq m o.a).c)):=He.out;have HR:=ae hR;have q0:=hR.p;have q2:=hR.t.q;have ac:=(hR.t.t na _ ta).c;have kH:=M.bP ta;have vU:=hR.oX;have hca:=fa.c0;have axN:=fa.c1;have JF:=fz.c1;have tE:Hid (c<(M.aq m o.a).c->∀W,jy W r gb ga c1 cb g E->Calls prog 150 #[.pointer (some ⟨r,0,none⟩),.int .i64 na,.int .i64 y,.int .i64 x,.int .i64 c] W fun e w'=>e=.returned (.int .i64 (D.bN (M.aq m o.a) la y x c))/\∃n,w'=W.drewN n):=fun hc W hW=>by
  have i:=R.wI (t:=M.aq m o.a) (l:=la) (y:=y) (x:=x) (c:=c) F.na ((O.sM _ _ _).mpr ⟨y0,by omega,x0,by omega⟩) k0 hc;exact uN r gb ga c1 cb g E na (M.aq m o.a) la y x c W hW ta lC (by have:=fz.h1;omega) (by have:=fz.w1;omega) (by omega) ⟨by have:=fa.w0;omega,fa.w1⟩ ⟨by have:=fa.c0;omega,fa.c1⟩ i.1 i.2 (by omega)
 have s9:Hid (¬c<(M.aq m o.a).c->∀W,jy W r gb ga c1 cb g E->Calls prog 150 #[.pointer (some ⟨r,0,none⟩),.int .i64 nb,.int .i64 y,.int .i64 x,.int .i64 (c-(M.aq m o.a).c)] W fun e w'=>e=.returned (.int .i64 (D.bN (M.aq m o.b) lb y x (c-(M.aq m o.a).c)))/\∃n,w'=W.drewN n):=fun hc W hW=>by
  have i:=R.wI (t:=M.aq m o.b) (l:=lb) (y:=y) (x:=x) (c:=c-(M.aq m o.a).c) (F.nb h2) ((O.sM _ _ _).mpr ⟨y0,by omega,x0,by omega⟩) (by omega) (by omega);exact uN r gb ga c1 cb g E nb (M.aq m o.b) lb y x _ W hW tb EH (by have:=fz.h1;omega) (by have:=fz.w1;omega) (by omega) ⟨by have:=fb.w0;omega,fb.w1⟩ ⟨by have:=fb.c0;omega,fb.c1⟩ i.1 i.2 (by omega)
 obtain⟨jI,si⟩:∃v,Hid (D.cell o (O.cY m o la lb) y x c=v):=⟨_,rfl⟩;rw[si.out] at tF ⊢;obtain⟨av,Ue⟩:∃v,Hid (D.bN (M.aq m o.a) la y x c=v):=⟨_,rfl⟩;obtain⟨bv,Hbv⟩:∃v,Hid (D.bN (M.aq m o.b) lb y x (c-(M.aq m o.a).c)=v):=⟨_,rfl⟩;rw[Ue.out] at tF tE;rw[Hbv.out] at tF s9;have wc:IntKind.i64.wrap (c-(M.aq m o.a).c)=c-(M.aq m o.a).c:=by rw[cS];omega
 obtain⟨ai,ci,an,cn,o0,o1,o2,o3,hI,hN⟩:=hO;have sr:w.cell? ⟨p,off,none⟩=some (.int .i64 10):=by rw[<-hk];exact o0
 rw[dd] at o1 hI;have uP:w.cell? ⟨p,off+1,none⟩=some (.slice ai 2 ci):=o1;obtain⟨gi,e1,-,-,i0⟩:=hI.get 0 (na:Int) rfl;subst e1;obtain⟨_,e1,-,-,i1⟩:=hI.get 1 (nb:Int) rfl;injection e1 with e1;injection e1 with e1 _ _;subst e1;have O1:=ae uP;have I0:=ae i0;have I1:=ae i1;clear o0 o1 o2 o3 hI hN hR hD F hg ta tb lC EH dd y0 y1 x0 x1 ea eb He hk a1 a2 a3 a4 a5 fa fb fz ya qh h2;generalize (M.aq m o.a).c=cc at *;go_enter func118,ntmps118;go_wp2_with fail;go_quiet (fail);have G1:=ae (bF w nq none);clear sr uP i0 i1 q0 q2 ac;have R1:=ae (HR.out.Z G1.out);have uP:=aG G1.out O1.out;have i0:=aG G1.out I0.out;have i1:=aG G1.out I1.out;generalize w.drewN nq=w1 at *;by_cases hc:c<cc
 ·have Hr:Hid (av=jI):=by unfold Hid;rw[tF.out,ay hc]
  have HC:=ae (tE.out hc w1 R1.out);go_wp2_with fail;refine HC.out.mono ?_;rintro e w2⟨rfl,nd,rfl⟩;go_wp2;go_ret;exact⟨cE Hr.out,aC G1.out (bF _ _ _)⟩
 ·have Hr:Hid (bv=jI):=by unfold Hid;rw[tF.out,ak hc]
  have HC:=ae (s9.out (by omega) w1 R1.out);go_wp2_with fail;refine HC.out.mono ?_;rintro e w2⟨rfl,nd,rfl⟩;go_wp2;go_ret;exact⟨cE Hr.out,aC G1.out (bF _ _ _)⟩
theorem ase(r gb ga c1 cb p off:Nat)(g:R.bX)(E:List (List Int))(m:M.Md)(o:M.Op)(la lb:List Int)(y x c:Int)(w:World)(hR:jy w r gb ga c1 cb g E)(hO:jY w p off (R.bJ o))(hg:Bc g m)(hD:R.zA m E o la lb)(hk:o.af=9)
  (y0:0<=y) (y1:y<(M.aq m o.to).h) (x0:0<=x) (x1:x<(M.aq m o.to).w) (k0:0<=c) (k1:c<(M.aq m o.to).c) :
  Calls prog 118 #[.pointer (some ⟨r,0,none⟩),.pointer (some ⟨p,off,none⟩),.int .i64 y,.int .i64 x,.int .i64 c] w fun e w'=>e=.returned (.int .i64 (D.cell o (O.cY m o la lb) y x c))/\w.grownBy w' none:=by
 have F:=hD.F;obtain⟨na,ea,ta,lC⟩:=hD.a;obtain⟨nz,ez,tz⟩:=hD.z;rw[<-hg] at ta tz;have dd:(R.bJ o).ins=[(na:Int)]:=by rw[R.CW (by rw[hk];decide) (by rw[hk];decide),ea]
 have a1:=(O.vq F.bT).2.2.2.2.1 hk;have fa:=F.a;have fz:=F.z;have ya:la.length<=512:=by have:=F.na;have:=fa.me;omega
 have hlz:(la.length:Int)=(M.aq m o.to).h*(M.aq m o.to).w*(M.aq m o.to).c:=by have:=F.na;rw[a1] at this;exact this
 have hi:=R.wI (t:=M.aq m o.to) (l:=la) (y:=y) (x:=x) (c:=c) hlz ((O.sM _ _ _).mpr ⟨y0,y1,x0,x1⟩) k0 k1;have He:=ae (D.LU (O.cY m o la lb) y x c hk);have tF:Hid (D.cell o (O.cY m o la lb) y x c=D.get la ((y*(M.aq m o.to).w+x)*(M.aq m o.to).c+c)):=He.out;obtain⟨i,nJ⟩:=fR hi.1;have fC:i<la.length:=by have:=hi.2;omega
 obtain⟨v,hv⟩:∃v,la[i]?=some v:=⟨_,aT fC⟩;have Hr:Hid (D.cell o (O.cY m o la lb) y x c=v):=by unfold Hid;rw[tF.out];unfold D.get;rw[nJ,ak (by omega),ey,List.getD,hv];rfl
 obtain⟨aa,cp,d1,hS⟩:=hR.e na la lC;obtain⟨ad,rfl,dv⟩:=hS.get i v hv;have q0:=hR.p;have q1:=hR.c;have q2:=hR.t.q;have hT:=hR.t.t nz _ tz;have t2:=hT.v;have t3:=hT.c;have vV:=M.bP tz;have kH:=M.bP ta;have vU:=hR.oX;have eK:=fz.w1;have LY:=fz.w0;have AA:=fz.c1;have vc:=fz.c0;have hh1:=fz.h1;have m1:=O.kO (a:=y) (b:=(M.aq m o.to).w) (A:=255) (B:=255) (by omega) (by omega);have m2:=O.kO (a:=y*(M.aq m o.to).w+x) (b:=(M.aq m o.to).c) (A:=100000) (B:=255) (by omega) (by omega);have w1:IntKind.i64.wrap (y*(M.aq m o.to).w)=y*(M.aq m o.to).w:=by rw[cS];omega
 have w2:IntKind.i64.wrap (y*(M.aq m o.to).w+x)=y*(M.aq m o.to).w+x:=by rw[cS];omega
 have w3:IntKind.i64.wrap ((y*(M.aq m o.to).w+x)*(M.aq m o.to).c)=(y*(M.aq m o.to).w+x)*(M.aq m o.to).c:=by rw[cS];omega
 have w4:IntKind.i64.wrap ((y*(M.aq m o.to).w+x)*(M.aq m o.to).c+c)=(i:Int):=by rw[<-nJ,cS];omega
 obtain⟨ai,ci,an,cn,o0,o1,o2,o3,hI,hN⟩:=hO;have sr:w.cell? ⟨p,off,none⟩=some (.int .i64 9):=by rw[<-hk];exact o0
 rw[dd] at o1 hI;have uP:w.cell? ⟨p,off+1,none⟩=some (.slice ai 1 ci):=o1;have x9:w.cell? ⟨p,off+2,none⟩=some (.int .i64 nz):=by rw[<-ez];exact o2
 obtain⟨gi,e1,-,-,i0⟩:=hI.get 0 (na:Int) rfl;subst e1;have axO:la.length<=512:=ya;rw[Hr.out];have O1:=ae uP;have I0:=ae i0;have Q0:=ae q0;have Q1:=ae q1;have T2:=ae t2;have T3:=ae t3;have D1:=ae d1;have DV:=ae dv;clear o0 o1 o2 o3 hI hN hR hD F hg ta tz lC dd y0 y1 x0 x1 k0 k1 ea ez He tF hk a1 fa fz ya hlz hi nJ hv hS hT m1 m2 eK LY AA vc hh1 t2 t3 d1 dv;generalize (M.aq m o.to).w=tw at *;generalize (M.aq m o.to).c=tc at *;go_enter func118,ntmps118;go_wp2_with fail;go_quiet (fail);have G1:=ae (bF w nq none);clear sr uP x9 i0 q0 q1 q2;have uP:=aG G1.out O1.out;have i0:=aG G1.out I0.out;have q0:=aG G1.out Q0.out;have q1:=aG G1.out Q1.out;have t2:=aG G1.out T2.out;have t3:=aG G1.out T3.out;have d1:=aG G1.out D1.out;have dv:=aG G1.out DV.out;generalize w.drewN nq=w1 at *;go_wp2;go_quiet (fail);go_wp2;go_ret;exact⟨rfl,aC G1.out (bF _ _ _)⟩
structure KK(w:World)(r gb ga c1 cb p off gi ci pc:Nat)(na nw ni af:Int)(a:M.Tn)(nA nI:Nat)(va vi:Value):Prop where
 q0:w.cell? ⟨r,0,none⟩=some (.pointer (some ⟨gb,0,none⟩))
 q1:w.cell? ⟨r,1,none⟩=some (.slice (some ⟨cb,0,none⟩) pc pc)
 q2:w.cell? ⟨gb,0,none⟩=some (.slice (some ⟨ga,0,none⟩) pc c1)
 o0:w.cell? ⟨p,off,none⟩=some (.int .i64 af)
 o1:w.cell? ⟨p,off+1,none⟩=some (.slice (some ⟨gi,0,none⟩) 3 ci)
 i0:w.cell? ⟨gi,0,none⟩=some (.int .i64 na)
 i1:w.cell? ⟨gi,1,none⟩=some (.int .i64 nw)
 i2:w.cell? ⟨gi,2,none⟩=some (.int .i64 ni)
 ah:w.cell? ⟨ga,nA*6+1,none⟩=some (.int .i64 a.h)
 aw:w.cell? ⟨ga,nA*6+2,none⟩=some (.int .i64 a.w)
 ac:w.cell? ⟨ga,nA*6+3,none⟩=some (.int .i64 a.c)
 az:w.cell? ⟨ga,nA*6+4,none⟩=some (.int .i64 a.zero)
 da:w.cell? ⟨cb,nA,none⟩=some va
 di:w.cell? ⟨cb,nI,none⟩=some vi
theorem KK.Z{w w':World}{r gb ga c1 cb p off gi ci pc:Nat}{na nw ni af:Int}{a:M.Tn}{nA nI:Nat}{va vi:Value}(h:KK w r gb ga c1 cb p off gi ci pc na nw ni af a nA nI va vi)(hg:w.grownBy w' none):KK w' r gb ga c1 cb p off gi ci pc na nw ni af a nA nI va vi:=
 ⟨aG hg h.q0,aG hg h.q1,aG hg h.q2,aG hg h.o0,aG hg h.o1,aG hg h.i0,aG hg h.i1,aG hg h.i2,aG hg h.ah,aG hg h.aw,aG hg h.ac,aG hg h.az,aG hg h.da,aG hg h.di⟩
theorem asg(r gb ga c1 cb p off:Nat)(g:R.bX)(E:List (List Int))(m:M.Md)(o:M.Op)(la lb:List Int)(y x c:Int)(w:World)(hR:jy w r gb ga c1 cb g E)(hO:jY w p off (R.bJ o))(hg:Bc g m)(hD:R.zA m E o la lb)(hk:o.af=3)
  (k0:0<=c) (k1:c<(M.aq m o.to).c) :
  Calls prog 118 #[.pointer (some ⟨r,0,none⟩),.pointer (some ⟨p,off,none⟩),.int .i64 y,.int .i64 x,.int .i64 c] w fun e w'=>e=.returned (.int .i64 (D.cell o (O.cY m o la lb) y x c))/\w.grownBy w' none:=by
 have F:=hD.F;have hW:M.cm o.af=true:=by rw[hk];rfl
 obtain⟨na,ea,ta,lC⟩:=hD.a;obtain⟨nw,ni,ew,ei,tw,ti,KH,KI⟩:=hD.ws hW;obtain⟨nz,ez,tz⟩:=hD.z;rw[<-hg] at ta tw ti tz;obtain⟨s,hs,fs,hn⟩:=R.ar3 F.dQ hk;have sq:=R.KF fs (KG F (by rw[hs];simp));have Uf:=O.WD F.bT hk;have fa:=F.a;have fw:=F.w hW;have fz:=F.z;have fb:=F.bi hW;obtain⟨dw1,dw2,db1,db2,db3,dz1,dz2,dz3⟩:(M.aq m o.aP).w=1/\(M.aq m o.aP).c=M.cellsOf (M.aq m o.a)/\(M.aq m o.bA).h=1/\(M.aq m o.bA).w=1/\(M.aq m o.bA).c=(M.aq m o.aP).h/\(M.aq m o.to).h=1/\(M.aq m o.to).w=1/\(M.aq m o.to).c=(M.aq m o.aP).h:=by
  unfold M.qz M.isRow at Uf;simp only[fh,beq_iff_eq] at Uf;omega
 have dh:((M.aq m o.bA).data.length:Int)=(M.aq m o.to).c:=by
  have:=F.li hW;rw[this];unfold M.cellsOf;rw[db1,db2,db3,dz3];omega
 have ya:la.length<=512:=by have:=F.na;have:=fa.me;omega
 have oa:(M.aq m o.aP).data.length<=512:=by have:=F.lw hW;have:=fw.me;omega
 have wH:=R.adn F hW;obtain⟨cn_,xw⟩:=fR k0;obtain⟨bv,OU⟩:∃v,(M.aq m o.bA).data[cn_]?=some v:=⟨_,aT (by omega)⟩;have Ug:R.ds (O.cY m o la lb) c 0=bv:=by
  show D.get (M.aq m o.bA).data c+0=bv;rw[Int.add_zero];unfold D.get;rw[xw,ak (by omega),ey,List.getD,OU];rfl
 obtain⟨aI,cI,dI,SI⟩:=hR.e ni _ KI;obtain⟨adI,rfl,dbv⟩:=SI.get cn_ bv OU;obtain⟨aA,cA,dA,SA⟩:=hR.e na _ lC;obtain⟨ai,ci,an,cn,o0,o1,o2,o3,hI,hN⟩:=hO;have Uh:Hid (jY w p off (R.bJ o)):=⟨ai,ci,an,cn,o0,o1,o2,o3,hI,hN⟩;have dd:(R.bJ o).ins=[(na:Int),(nw:Int),(ni:Int)]:=by rw[R.zj hW,ea,ew,ei]
 rw[dd] at o1 hI;obtain⟨gi,e1,-,-,i0⟩:=hI.get 0 (na:Int) rfl;subst e1;obtain⟨_,e1,-,-,i1⟩:=hI.get 1 (nw:Int) rfl;injection e1 with e1;injection e1 with e1 _ _;subst e1;obtain⟨_,e1,-,-,i2⟩:=hI.get 2 (ni:Int) rfl;injection e1 with e1;injection e1 with e1 _ _;subst e1;have hA:=hR.t.t na _ ta;have HM:Hid (KK w r gb ga c1 cb p off gi ci g.ts.length na nw ni 3 (M.aq m o.a) na ni (.slice aA la.length cA) (.slice (some adI) (M.aq m o.bA).data.length cI)):=⟨hR.p,hR.c,hR.t.q,by rw[<-hk];exact o0,o1,i0,i1,i2,hA.h,hA.v,hA.c,hA.z,dA,dI⟩;have HSA:=ae SA;have kH:=M.bP ta;have AB:=M.bP tw;have fC:=M.bP ti;have vU:=hR.oX;have HR:=ae hR;have hna:(M.cellsOf (M.aq m o.a))=(la.length:Int):=F.na.symm;have OV:=ae (fun(W:World) (h:KK W r gb ga c1 cb p off gi ci g.ts.length na nw ni 3 (M.aq m o.a) na ni (.slice aA la.length cA) (.slice (some adI) (M.aq m o.bA).data.length cI))=>F8 ga (na*6) (M.aq m o.a) W ⟨hD.ka.1,hD.ka.2,by have:=fa.h0;omega,fa.h1,by have:=fa.w0;omega,fa.w1,by have:=fa.c0;omega,fa.c1,fa.z0,fa.z1⟩ h.ah h.aw h.ac);rw[hna] at OV;have vX:Hid (∀(i:Nat) (W:World),i<la.length->jy W r gb ga c1 cb g E->Calls prog 150 #[.pointer (some ⟨r,0,none⟩),.int .i64 nw,.int .i64 c,.int .i64 0,.int .i64 i] W fun e w'=>e=.returned (.int .i64 (D.bN (M.aq m o.aP) (M.aq m o.aP).data c 0 i))/\∃n,w'=W.drewN n):=fun i W hi hW=>by
  have q:=R.wI (t:=M.aq m o.aP) (l:=(M.aq m o.aP).data) (y:=c) (x:=0) (c:=(i:Int)) (F.lw (by rw[hk];rfl)) ((O.sM _ _ _).mpr ⟨k0,by omega,by omega,by omega⟩) (by omega) (by omega);exact uN r gb ga c1 cb g E nw (M.aq m o.aP) (M.aq m o.aP).data c 0 i W hW tw KH (by have:=fz.c1;omega) (by omega) (by omega) ⟨by omega,by omega⟩ ⟨by have:=fw.c0;omega,fw.c1⟩ q.1 q.2 (by omega)
 have fg:Hid (∀(i:Nat) v,la[i]?=some v->R.ds (O.cY m o la lb) c (i+1)=R.ds (O.cY m o la lb) c i+(v-(M.aq m o.a).zero)*D.bN (M.aq m o.aP) (M.aq m o.aP).data c 0 i):=fun i v hv=>by
  rw[R.aq1];have e:D.get (O.cY m o la lb).la i=v:=by show D.get la i=v;unfold D.get;rw[ak (by omega),ey,List.getD,hv];rfl
  rw[e];rfl
 have EF:=ae (fun(i:Nat) (hi:i<=512)=>R.aq2 (c:=c) wH hi);have Hcv:=ae (fun(v:Int) (h:v∈la)=>F.ca v h);have Hwr:=ae (fun(i:Nat)=>R.uK (t:=M.aq m o.aP) wH.cw c 0 i);have OW:=wH.za;have aec:-128<=(M.aq m o.a).zero/\(M.aq m o.a).zero<=127:=OW;have He:=ae (D.LO (O.cY m o la lb) y x c hk);have aed:Hid (R.ds (O.cY m o la lb) c la.length=D.E3 (O.cY m o la lb) c):=by
  unfold Hid R.ds D.E3;show _+D.S _ la.length=_+D.S _ (M.cellsOf (M.aq m o.a)).toNat;rw[show(M.cellsOf (M.aq m o.a)).toNat=la.length by omega]
 have Hq:Hid (D.cell o (O.cY m o la lb) y x c=R.cU (R.iL (R.ds (O.cY m o la lb) c la.length) s.eE s.shift+(M.aq m o.to).zero) o.lo o.hi):=by
  unfold Hid;rw[He.out,aed.out];unfold D.tT D.jC D.BJ;rw[hs];rfl
 have sj:=ae (fun(sv:Int) (W:World) (EI:jy W r gb ga c1 cb g E) (KJ:jY W p off (R.bJ o)) (b1:-2147483648<=sv) (b2:sv<=2147483648)=>TO r gb ga c1 cb p off g E (R.bJ o) 0 nz sv s.eE s.shift o.lo o.hi (M.aq m o.to) W EI KJ (by rw[hn];rfl) (by rw[hn];rfl) (by rw[hn];rfl) (by rw[hn];rfl) tz ez (by rw[hn];simp) b1 b2 sq.1 sq.2.1 sq.2.2.1 sq.2.2.2 ⟨F.z.z0,F.z.z1⟩ (R.BQ sq.2.2.1));obtain⟨jI,si⟩:∃v,Hid (D.cell o (O.cY m o la lb) y x c=v):=⟨_,rfl⟩;rw[si.out] at Hq ⊢;obtain⟨ds,Hds⟩:∃f,Hid (R.ds (O.cY m o la lb) c=f):=⟨_,rfl⟩;rw[Hds.out] at fg EF Hq Ug;obtain⟨wv,Ui⟩:∃f:Nat->Int,Hid (∀i:Nat,D.bN (M.aq m o.aP) (M.aq m o.aP).data c 0 i=f i):=⟨fun i=>D.bN (M.aq m o.aP) (M.aq m o.aP).data c 0 i,fun _=>rfl⟩;have asq:Hid (∀(i:Nat) (W:World),i<la.length->jy W r gb ga c1 cb g E->Calls prog 150 #[.pointer (some ⟨r,0,none⟩),.int .i64 nw,.int .i64 c,.int .i64 0,.int .i64 i] W fun e w'=>e=.returned (.int .i64 (wv i))/\∃n,w'=W.drewN n):=fun i W h1 h2=>by rw[<-Ui.out];exact vX.out i W h1 h2
 have asr:Hid (∀(i:Nat) v,la[i]?=some v->ds (i+1)=ds i+(v-(M.aq m o.a).zero)*wv i):=fun i v hv=>by rw[<-Ui.out];exact fg.out i v hv
 have ass:Hid (∀i:Nat,-128<=wv i/\wv i<=127):=fun i=>by rw[<-Ui.out];exact Hwr.out i
 have Dbv:=ae dbv;have km:=M.bP OU;have ast:(M.aq m o.bA).data.length<=512:=by have:=fz.c1;omega
 clear vX fg Hwr hI hN o0 o1 o2 o3 i0 i1 i2 hA hR hD F hg ta tw ti tz lC KH KI hn sq fs hs wH OW ea ew ei ez He aed dA SA SI dI fa fw fz fb dw1 dw2 db1 db2 db3 dz1 dz2 dz3 Uf dd k1 hk OU;obtain⟨lbl,asu⟩:∃n,Hid ((M.aq m o.bA).data.length=n):=⟨_,rfl⟩;rw[asu.out] at HM OV dh km ast;obtain⟨pc,Kz⟩:∃n,Hid (g.ts.length=n):=⟨_,rfl⟩;rw[Kz.out] at HM OV kH AB fC vU;have q0:=HM.out.q0;have q1:=HM.out.q1;have o0:=HM.out.o0;have o1:=HM.out.o1;have i2:=HM.out.i2;have di:=HM.out.di;subst xw;go_enter func118,ntmps118;go_wp2_with fail;go_quiet (fail);have G1:=ae (bF w nq none);have M1:=ae (HM.out.Z G1.out);clear q0 q1 o0 o1 i2 di dbv;generalize w.drewN nq=w1 at *;have q0:=M1.out.q0;have q2:=M1.out.q2;have o1:=M1.out.o1;have i0:=M1.out.i0;go_wp2_with fail;go_quiet (fail);have g2:=bF w1 nq none;have G2:=ae (aC G1.out g2);have M2:=ae (M1.out.Z g2);clear q0 q2 o1 i0 g2 M1 G1;generalize w1.drewN nq=w2 at *;have asv:=ae Ug;clear Ug;rw[<-asv.out];go_wp2;go_loopw[12,14] (fun sv iv wr=>∃i:Nat,i<=la.length/\sv=.int .i64 (ds i)/\iv=.int .i64 i/\Hid (w2.grownBy wr none)) (fun _ iv _=>la.length-(intOf iv).toNat)
 case atStart=>exact⟨0,bK _,rfl,rfl,gL _ _⟩
 case round=>
  obtain⟨i,hi,rfl,rfl,C6⟩:=hrel;have Mi:=ae (M2.out.Z C6.out);have KL:=ae (OV.out wr Mi.out);go_wp2_with fail;refine KL.out.mono ?_;rintro e w3⟨rfl,n3,h3⟩;have g3:=bF wr n3 none;rw[<-h3] at g3;have Eb:=ae (aC C6.out g3);have M3:=ae (M2.out.Z Eb.out);have R3:=ae (HR.out.Z (aC G2.out Eb.out));clear g3 h3 KL Mi C6;by_cases aK:i<la.length
  ·obtain⟨v,hv⟩:∃v,la[i]?=some v:=⟨_,aT aK⟩
   have Ek:=ae (asr.out i v hv);have xE:=EF.out i (by omega);have yQ:=EF.out (i+1) (by omega);have eK:=ass.out i;have B6:=Hcv.out v (bV hv);have mm:=O.yz B6 aec eK;have rR:=ae (asq.out i w3 aK R3.out);obtain⟨adA,eA,dv⟩:=HSA.out.get i v hv;have Dv:=ae dv;subst eA;obtain⟨zz,Hzz⟩:∃z,Hid ((M.aq m o.a).zero=z):=⟨_,rfl⟩;obtain⟨qv,C7⟩:∃z,Hid (wv i=z):=⟨_,rfl⟩;obtain⟨sv,mZ⟩:∃z,Hid (ds i=z):=⟨_,rfl⟩;rw[Hzz.out] at Ek mm aec;rw[C7.out] at Ek mm rR eK;rw[Ek.out] at yQ;rw[mZ.out] at Ek xE yQ ⊢;have wk1:IntKind.i64.wrap (v-zz)=v-zz:=by rw[cS];omega
   have wk2:IntKind.i64.wrap ((v-zz)*qv)=(v-zz)*qv:=by rw[cS];omega
   have wk3:IntKind.i64.wrap (sv+(v-zz)*qv)=sv+(v-zz)*qv:=by rw[cS];omega
   have o1:=M3.out.o1;have i1:=M3.out.i1;clear hv xE yQ eK B6 mm dv;go_wp2_with fail;refine rR.out.mono ?_;rintro e w4⟨rfl,n4,h4⟩;have g4:=bF w3 n4 none;rw[<-h4] at g4;have qY:=ae (aC Eb.out g4);have M4:=ae (M3.out.Z g4);clear g4 h4 o1 i1 rR;have q0:=M4.out.q0;have q1:=M4.out.q1;have o1:=M4.out.o1;have i0:=M4.out.i0;have da:=M4.out.da;have az:w4.cell? ⟨ga,na*6+4,none⟩=some (.int .i64 zz):=by rw[<-Hzz.out];exact M4.out.az
   have dv:=aG (aC G2.out qY.out) Dv.out;go_wp2_with fail;go_quiet (fail);have AV:=ae (aC qY.out (bF w4 nq none));clear q0 q1 o1 i0 da az dv;go_wp2;go_roundw
   case rel=>exact⟨i+1,by omega,by rw[Ek.out],by go_num,AV.out⟩
   case measure=>simp[intOf];omega
  ·obtain rfl:i=la.length:=by omega
   have xE:=EF.out la.length (by omega);have HCq:=ae (sj.out (ds la.length) w3 R3.out (Uh.out.Z (aC G2.out Eb.out)) (by omega) (by omega));rw[<-Hq.out] at HCq;clear xE;go_wp2_with fail;refine HCq.out.mono ?_;rintro e w4⟨rfl,n4,rfl⟩;go_wp2;go_ret;exact⟨rfl,aC (aC G2.out Eb.out) (bF _ _ _)⟩
structure OX(w:World)(r gb ga c1 p off gi ci gn cn pc:Nat)(na nb m0 s0 m1 s1 za zb:Int)(nA nB:Nat):Prop where
 q0:w.cell? ⟨r,0,none⟩=some (.pointer (some ⟨gb,0,none⟩))
 q2:w.cell? ⟨gb,0,none⟩=some (.slice (some ⟨ga,0,none⟩) pc c1)
 o0:w.cell? ⟨p,off,none⟩=some (.int .i64 4)
 o1:w.cell? ⟨p,off+1,none⟩=some (.slice (some ⟨gi,0,none⟩) 2 ci)
 o3:w.cell? ⟨p,off+3,none⟩=some (.slice (some ⟨gn,0,none⟩) 8 cn)
 i0:w.cell? ⟨gi,0,none⟩=some (.int .i64 na)
 i1:w.cell? ⟨gi,1,none⟩=some (.int .i64 nb)
 n0:w.cell? ⟨gn,0,none⟩=some (.int .i64 m0)
 n1:w.cell? ⟨gn,1,none⟩=some (.int .i64 s0)
 n2:w.cell? ⟨gn,2,none⟩=some (.int .i64 m1)
 n3:w.cell? ⟨gn,3,none⟩=some (.int .i64 s1)
 az:w.cell? ⟨ga,nA*6+4,none⟩=some (.int .i64 za)
 bz:w.cell? ⟨ga,nB*6+4,none⟩=some (.int .i64 zb)
theorem OX.Z{w w':World}{r gb ga c1 p off gi ci gn cn pc:Nat}{na nb m0 s0 m1 s1 za zb:Int}{nA nB:Nat}(h:OX w r gb ga c1 p off gi ci gn cn pc na nb m0 s0 m1 s1 za zb nA nB)(hg:w.grownBy w' none):OX w' r gb ga c1 p off gi ci gn cn pc na nb m0 s0 m1 s1 za zb nA nB:=
 ⟨aG hg h.q0,aG hg h.q2,aG hg h.o0,aG hg h.o1,aG hg h.o3,aG hg h.i0,aG hg h.i1,aG hg h.n0,aG hg h.n1,aG hg h.n2,aG hg h.n3,aG hg h.az,aG hg h.bz⟩
theorem asw(r gb ga c1 cb p off:Nat)(g:R.bX)(E:List (List Int))(m:M.Md)(o:M.Op)(la lb:List Int)(y x c:Int)(w:World)(hR:jy w r gb ga c1 cb g E)(hO:jY w p off (R.bJ o))(hg:Bc g m)(hD:R.zA m E o la lb)(hk:o.af=4)
  (y0:0<=y) (y1:y<(M.aq m o.to).h) (x0:0<=x) (x1:x<(M.aq m o.to).w) (k0:0<=c) (k1:c<(M.aq m o.to).c) :
  Calls prog 118 #[.pointer (some ⟨r,0,none⟩),.pointer (some ⟨p,off,none⟩),.int .i64 y,.int .i64 x,.int .i64 c] w fun e w'=>e=.returned (.int .i64 (D.cell o (O.cY m o la lb) y x c))/\w.grownBy w' none:=by
 have F:=hD.F;have h2:M.dr o.af=true:=by rw[hk];rfl
 obtain⟨na,ea,ta,lC⟩:=hD.a;obtain⟨nb,eb,tb,EH⟩:=hD.b h2;obtain⟨nz,ez,tz⟩:=hD.z;rw[<-hg] at ta tb tz;obtain⟨s,t,u,hs,fs,ft,fu,hn⟩:=R.ar4 F.dQ hk;have sq:=R.KF fs (KG F (by rw[hs];simp));have tq:=R.KF ft (KG F (by rw[hs];simp));have uq:=R.KF fu (KG F (by rw[hs];simp));have dd:(R.bJ o).ins=[(na:Int),(nb:Int)]:=by rw[R.CV h2,ea,eb]
 obtain⟨al1,al2⟩:=(O.vq F.bT).1 hk;obtain⟨a1,a2,a3⟩:=(O.z9 _ _).mp al1;obtain⟨b1,b2,b3⟩:=(O.z9 _ _).mp al2;have fa:=F.a;have fb:=F.b h2;have fz:=F.z;have ya:la.length<=512:=by have:=F.na;have:=fa.me;omega
 have qh:lb.length<=512:=by have:=F.nb h2;have:=fb.me;omega
 have ia:=R.wI (t:=M.aq m o.a) (l:=la) (y:=y) (x:=x) (c:=c) F.na ((O.sM _ _ _).mpr ⟨y0,by omega,x0,by omega⟩) k0 (by omega);have ib:=R.wI (t:=M.aq m o.b) (l:=lb) (y:=y) (x:=x) (c:=c) (F.nb h2) ((O.sM _ _ _).mpr ⟨y0,by omega,x0,by omega⟩) k0 (by omega);have tE:=ae (fun(W:World) (h:jy W r gb ga c1 cb g E)=>uN r gb ga c1 cb g E na (M.aq m o.a) la y x c W h ta lC (by have:=fz.h1;omega) (by have:=fz.w1;omega) (by have:=fz.c1;omega) ⟨by have:=fa.w0;omega,fa.w1⟩ ⟨by have:=fa.c0;omega,fa.c1⟩ ia.1 ia.2 (by omega));have s9:=ae (fun(W:World) (h:jy W r gb ga c1 cb g E)=>uN r gb ga c1 cb g E nb (M.aq m o.b) lb y x c W h tb EH (by have:=fz.h1;omega) (by have:=fz.w1;omega) (by have:=fz.c1;omega) ⟨by have:=fb.w0;omega,fb.w1⟩ ⟨by have:=fb.c0;omega,fb.c1⟩ ib.1 ib.2 (by omega));have ra:=R.uK (t:=M.aq m o.a) F.ca y x c;have rb:=R.uK (t:=M.aq m o.b) (F.cb h2) y x c;obtain⟨pv,Gh⟩:∃v,Hid (D.bN (M.aq m o.a) la y x c=v):=⟨_,rfl⟩;obtain⟨qv,C7⟩:∃v,Hid (D.bN (M.aq m o.b) lb y x c=v):=⟨_,rfl⟩;rw[Gh.out] at tE ra;rw[C7.out] at s9 rb;obtain⟨za,Uj⟩:∃v,Hid ((M.aq m o.a).zero=v):=⟨_,rfl⟩;obtain⟨zb,Uk⟩:∃v,Hid ((M.aq m o.b).zero=v):=⟨_,rfl⟩;have OW:-128<=za/\za<=127:=by rw[<-Uj.out];exact⟨fa.z0,fa.z1⟩
 have hzb:-128<=zb/\zb<=127:=by rw[<-Uk.out];exact⟨fb.z0,fb.z1⟩
 have jw:=ae (fun W=>Tf ((pv-za)*1048576) s.eE s.shift W (by omega) (by omega) sq.1 sq.2.1 sq.2.2.1 sq.2.2.2);have hZ:=ae (fun W=>Tf ((qv-zb)*1048576) t.eE t.shift W (by omega) (by omega) tq.1 tq.2.1 tq.2.2.1 tq.2.2.2);have rs1:=R.BQ (x:=(pv-za)*1048576) (c:=s) sq.2.2.1;have rs2:=R.BQ (x:=(qv-zb)*1048576) (c:=t) tq.2.2.1;have He:Hid (D.cell o (O.cY m o la lb) y x c=R.cU (R.iL (R.held (R.iL ((pv-za)*1048576) s.eE s.shift+R.iL ((qv-zb)*1048576) t.eE t.shift)) u.eE u.shift+(M.aq m o.to).zero) o.lo o.hi):=by
  unfold Hid;rw[D.LP _ _ _ _ hk,<-Gh.out,<-C7.out,<-Uj.out,<-Uk.out];unfold D.tT D.zX D.jC D.BJ;rw[hs];rfl
 obtain⟨sv,mZ⟩:∃v,Hid (R.iL ((pv-za)*1048576) s.eE s.shift=v):=⟨_,rfl⟩;obtain⟨tv,T0⟩:∃v,Hid (R.iL ((qv-zb)*1048576) t.eE t.shift=v):=⟨_,rfl⟩;rw[mZ.out] at jw rs1 He;rw[T0.out] at hZ rs2 He;have rh:=R.BI (sv+tv);have HCh:=ae (fun W=>Oi (sv+tv) W);obtain⟨hv,Hhv⟩:∃v,Hid (R.held (sv+tv)=v):=⟨_,rfl⟩;rw[Hhv.out] at rh HCh He;have sj:=ae (fun(W:World) (EI:jy W r gb ga c1 cb g E) (KJ:jY W p off (R.bJ o))=>TO r gb ga c1 cb p off g E (R.bJ o) 4 nz hv u.eE u.shift o.lo o.hi (M.aq m o.to) W EI KJ (by rw[hn];rfl) (by rw[hn];rfl) (by rw[hn];rfl) (by rw[hn];rfl) tz ez (by rw[hn];simp) (by omega) (by omega) uq.1 uq.2.1 uq.2.2.1 uq.2.2.2 ⟨F.z.z0,F.z.z1⟩ (R.BQ uq.2.2.1));rw[<-He.out] at sj;obtain⟨jI,si⟩:∃v,Hid (D.cell o (O.cY m o la lb) y x c=v):=⟨_,rfl⟩;rw[si.out] at sj ⊢;have Ul:=ae (fun W=>CL 20 W (by decide) (by decide));have HO:=ae hO;have HR:=ae hR;obtain⟨ai,ci,an,cn,o0,o1,o2,o3,hI,hN⟩:=hO;rw[hn] at o3 hN;rw[dd] at o1 hI;obtain⟨gi,e1,-,-,i0⟩:=hI.get 0 (na:Int) rfl;subst e1;obtain⟨_,e1,-,-,i1⟩:=hI.get 1 (nb:Int) rfl;injection e1 with e1;injection e1 with e1 _ _;subst e1;obtain⟨gn,e1,-,-,n0⟩:=hN.get 0 s.eE rfl;subst e1;obtain⟨_,e1,-,-,n1⟩:=hN.get 1 s.shift rfl;injection e1 with e1;injection e1 with e1 _ _;subst e1;obtain⟨_,e1,-,-,n2⟩:=hN.get 2 t.eE rfl;injection e1 with e1;injection e1 with e1 _ _;subst e1;obtain⟨_,e1,-,-,n3⟩:=hN.get 3 t.shift rfl;injection e1 with e1;injection e1 with e1 _ _;subst e1;have HM:Hid (OX w r gb ga c1 p off gi ci gn cn g.ts.length na nb s.eE s.shift t.eE t.shift za zb na nb):=⟨hR.p,hR.t.q,by rw[<-hk];exact o0,o1,o3,i0,i1,n0,n1,n2,n3,by rw[<-Uj.out];exact(hR.t.t na _ ta).z,by rw[<-Uk.out];exact(hR.t.t nb _ tb).z⟩;have kH:=M.bP ta;have dh:=M.bP tb;have vU:=hR.oX;obtain⟨pc,Kz⟩:∃n,Hid (g.ts.length=n):=⟨_,rfl⟩;rw[Kz.out] at HM kH dh vU
 have w1:IntKind.i64.wrap (pv-za)=pv-za:=by rw[cS];omega
 have w2:IntKind.i64.wrap ((pv-za)*1048576)=(pv-za)*1048576:=by rw[cS];omega
 have w3:IntKind.i64.wrap (qv-zb)=qv-zb:=by rw[cS];omega
 have w4:IntKind.i64.wrap ((qv-zb)*1048576)=(qv-zb)*1048576:=by rw[cS];omega
 have w5:IntKind.i64.wrap (sv+tv)=sv+tv:=by rw[cS];omega
 clear hI hN o0 o1 o2 o3 i0 i1 n0 n1 n2 n3 hR hD F hg ta tb tz lC EH hn sq tq uq fs ft fu hs ea eb ez fa fb fz a1 a2 a3 b1 b2 b3 al1 al2 dd k0 k1 y0 y1 x0 x1 hk ia ib ra rb OW hzb rs1 rs2 rh ya qh He h2;have o0:=HM.out.o0;have o1:=HM.out.o1;have i0:=HM.out.i0;go_enter func118,ntmps118;go_wp2_with fail;refine(tE.out w HR.out).mono ?_;rintro e v1⟨rfl,d1,B6⟩;have G1:=bF w d1 none;rw[<-B6] at G1;have M1:=ae (HM.out.Z G1);have R1:=ae (HR.out.Z G1);have Cv:=ae G1;clear o0 o1 i0 G1 B6 tE;have o1:=M1.out.o1;have i1:=M1.out.i1;go_wp2_with fail;refine(s9.out v1 R1.out).mono ?_;rintro e v2⟨rfl,d2,EA⟩;have G2:=bF v1 d2 none;rw[<-EA] at G2;have M2:=ae (M1.out.Z G2);have Dc:=ae (aC Cv.out G2);clear o1 i1 G2 EA s9 M1 R1 Cv;go_wp2_with fail;refine(Ul.out v2).mono ?_;rintro e v3⟨rfl,hv3⟩;subst hv3;have q0:=M2.out.q0;have q2:=M2.out.q2;have o1:=M2.out.o1;have o3:=M2.out.o3;have i0:=M2.out.i0;have n0:=M2.out.n0;have n1:=M2.out.n1;have az:=M2.out.az;have e20:(2:Int) ^ (20:Int).toNat=1048576:=by decide
 go_wp2_with fail;go_quiet (exact mQ (jw.out _));have G4:=bF v3 nq none;have M4:=ae (M2.out.Z G4);have qY:=ae (aC Dc.out G4);clear q0 q2 o1 o3 i0 n0 n1 az G4 M2 Dc jw;generalize v3.drewN nq=v4 at *;have q0:=M4.out.q0;have q2:=M4.out.q2;have o1:=M4.out.o1;have o3:=M4.out.o3;have i1:=M4.out.i1;have n2:=M4.out.n2;have n3:=M4.out.n3;have bz:=M4.out.bz;go_wp2_with fail;go_quiet (exact mQ (hZ.out _));have AV:=ae (aC qY.out (bF v4 nq none));clear q0 q2 o1 o3 i1 n2 n3 bz M4 qY hZ;generalize v4.drewN nq=v5 at *;go_wp2_with fail;refine(HCh.out v5).mono ?_;rintro e v6⟨rfl,hv6⟩;subst hv6;go_wp2_with fail;refine(sj.out _ (HR.out.Z AV.out) (HO.out.Z AV.out)).mono ?_;rintro e v7⟨rfl,d7,rfl⟩;go_wp2;go_ret;exact⟨rfl,aC AV.out (bF _ _ _)⟩
theorem asB(r gb ga c1 cb p off:Nat)(g:R.bX)(E:List (List Int))(m:M.Md)(o:M.Op)(la lb:List Int)(y x c:Int)(w:World)(hR:jy w r gb ga c1 cb g E)(hO:jY w p off (R.bJ o))(hg:Bc g m)(hD:R.zA m E o la lb)
  (y0:0<=y) (y1:y<(M.aq m o.to).h) (x0:0<=x) (x1:x<(M.aq m o.to).w) (k0:0<=c) (k1:c<(M.aq m o.to).c) :
  Calls prog 118 #[.pointer (some ⟨r,0,none⟩),.pointer (some ⟨p,off,none⟩),.int .i64 y,.int .i64 x,.int .i64 c] w fun e w'=>e=.returned (.int .i64 (D.cell o (O.cY m o la lb) y x c))/\w.grownBy w' none:=by
 have h0:=hD.F.dQ.k0;have h1:=hD.F.dQ.k1;rcases(show o.af=1\/o.af=2\/o.af=3\/o.af=4\/o.af=5\/o.af=6\/o.af=7\/o.af=8\/o.af=9\/o.af=10 by omega) with k|k|k|k|k|k|k|k|k|k
 ·exact adZ r gb ga c1 cb p off g E m o la lb y x c w hR hO hg hD (.inl k) y0 y1 x0 x1 k0 k1
 ·exact adZ r gb ga c1 cb p off g E m o la lb y x c w hR hO hg hD (.inr k) y0 y1 x0 x1 k0 k1
 ·exact asg r gb ga c1 cb p off g E m o la lb y x c w hR hO hg hD k k0 k1
 ·exact asw r gb ga c1 cb p off g E m o la lb y x c w hR hO hg hD k y0 y1 x0 x1 k0 k1
 ·exact ad1 r gb ga c1 cb p off g E m o la lb y x c w hR hO hg hD (.inl k) y0 y1 x0 x1 k0 k1
 ·exact ad1 r gb ga c1 cb p off g E m o la lb y x c w hR hO hg hD (.inr k) y0 y1 x0 x1 k0 k1
 ·exact ar9 r gb ga c1 cb p off g E m o la lb y x c w hR hO hg hD k y0 y1 x0 x1 k0 k1
 ·exact asa r gb ga c1 cb p off g E m o la lb y x c w hR hO hg hD k y0 y1 x0 x1 k0 k1
 ·exact ase r gb ga c1 cb p off g E m o la lb y x c w hR hO hg hD k y0 y1 x0 x1 k0 k1
 ·exact asc r gb ga c1 cb p off g E m o la lb y x c w hR hO hg hD k y0 y1 x0 x1 k0 k1
namespace R
theorem KM{E:List (List Int)}{n:Int}{len:Nat}(h0:0<=n)(h1:n<len)(hl:E.length=len):E[n.toNat]?=some (D.bW E n):=by
 unfold D.bW;rw[ak (by omega),List.getD,aT (by omega)];rfl
theorem asC{m:M.Md}(h1:O.iN m){C E:List (List Int)}{i:Nat}(h:O.ub m C E i){o:M.Op}(ho:m.ag[i]?=some o) :
  zA m E o (D.bW C o.a) (D.bW C o.b)/\D.dM m E o=D.pZ (M.aq m o.to) (D.cell o (O.cY m o (D.bW C o.a) (D.bW C o.b))):=by
 have F:=h.BP h1 ho;have ta:=h1.a i o ho;obtain⟨ma,-,-,ea⟩:=h.there ta;have ga:=O.kM ta.1 ta.2.1;obtain⟨z0,z1,-⟩:=O.mf (h1.to i o ho);have fk:=h1.dQ.ts _ ga.2;refine⟨⟨F,⟨o.a.toNat,by have:=ta.1;omega,ga.1,by rw[ea];exact KM ta.1 ta.2.1 h.Fb⟩,fun hb=>?_,fun hw=>?_,⟨o.to.toNat,by omega,(O.kM z0 z1).1⟩,⟨fk.k0,fk.k1⟩⟩,?_⟩
 ·have tb:=h1.b i o ho hb
  obtain⟨-,-,-,eb⟩:=h.there tb;exact⟨o.b.toNat,by have:=tb.1;omega,(O.kM tb.1 tb.2.1).1,by rw[eb];exact KM tb.1 tb.2.1 h.Fb⟩
 ·obtain⟨w1,w2⟩:=h1.ws i o ho hw
  obtain⟨a0,a1,a2⟩:=O.mf w1;obtain⟨b0,b1,b2⟩:=O.mf w2;have g1:=(O.kM a0 a1).1;have g2:=(O.kM b0 b1).1;refine⟨o.aP.toNat,o.bA.toNat,by omega,by omega,g1,g2,?_,?_⟩
  ·rw[<-h.data _ _ g1 (.inl a2),KM a0 a1 h.Fb];unfold D.bW;rw[ak (by omega)]
  ·rw[<-h.data _ _ g2 (.inr b2),KM b0 b1 h.Fb];unfold D.bW;rw[ak (by omega)]
 ·rw[<-h.dM h1 ho,O.Qv F]
def uQ(m:M.Md)(ins:List (List Int))(k:Nat):List (List Int):=(m.ag.take k).foldl (D.step m) (D.start m.au ins)
theorem ael{m:M.Md}{ins:List (List Int)}{k:Nat}{o:M.Op}(h:m.ag[k]?=some o):uQ m ins (k+1)=(uQ m ins k).set o.to.toNat (D.dM m (uQ m ins k) o):=by
 unfold uQ;rw[H.kj h,List.foldl_append];rfl
theorem aem(m:M.Md)(ins:List (List Int)):uQ m ins 0=D.start m.au ins:=by unfold uQ;simp
theorem aen(m:M.Md)(ins:List (List Int)):uQ m ins m.ag.length=D.fK m ins:=by unfold uQ D.fK;rw[jo]
theorem Um{m:M.Md}(ins:List (List Int)):∀k,k<=m.ag.length->(uQ m ins k).length=m.au.length
 | 0,_=>by rw[aem,O.Qw]
 | k+1,hk=>by rw[ael (aT (by omega)),kG];exact Um ins k (by omega)
theorem asD{m:M.Md}(h1:O.iN m){ins:List (List Int)}(hi:D.jM m ins=true)(k:Nat)(hk:k<=m.ag.length):∃C,O.ub m C (uQ m ins k) k:=⟨_,O.Ip h1 hi k hk⟩
def Be(m:M.Md)(ins:List (List Int))(k:Nat):List (List Int):=(m.aJ.take k).map (D.bW (D.fK m ins))
theorem asE{m:M.Md}{ins:List (List Int)}{k:Nat}{n:Int}(h:m.aJ[k]?=some n):Be m ins (k+1)=Be m ins k++[D.bW (D.fK m ins) n]:=by
 unfold Be;rw[H.kj h,lH];rfl
theorem asF(m:M.Md)(ins:List (List Int)):Be m ins m.aJ.length=D.run m ins:=by unfold Be D.run;rw[jo]
theorem asG{m:M.Md}(ins:List (List Int)){k:Nat}(h:k<=m.aJ.length):(Be m ins k).length=k:=by unfold Be;simp;omega
theorem asH{m:M.Md}(h1:O.iN m){n:Int}(h:n∈m.aJ):0<=n/\n<m.au.length:=⟨(h1.aJ n h).1,(h1.aJ n h).2.1⟩
end R
end Go.Proofs.YtcnhfffgbamonabGreat
