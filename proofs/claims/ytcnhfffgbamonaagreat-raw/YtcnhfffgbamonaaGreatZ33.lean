import Derived.Test.YtcnhfffgbamonaaGreatZ32
set_option maxRecDepth 100000
set_option maxHeartbeats 6400000
namespace Go.Proofs.YtcnhfffgbamonaaGreat
open Go.Proofs.Tryz
namespace R
theorem Ds{α:Type}{l:List α}(h:l.length=1):∃a,l=[a]:=by
 match l,h with
 | [a],_=>exact⟨a,rfl⟩
theorem as7{o:M.Op}(h:kN o)(hk:o.af=1\/o.af=2):∃s,o.bM=[s]/\uh s/\(bJ o).cO=[o.aE,if o.same=true then 1 else 0,s.eF,s.shift,o.lo,o.hi]:=by
 have hl:o.bM.length=1:=by rw[h.bM];rcases hk with k|k<;>rw[k]<;>rfl
 obtain⟨s,hs⟩:=Ds hl;refine⟨s,hs,h.gI s (by rw[hs];simp),?_⟩;show iH o=_;unfold iH;rw[hs,ay hk,ay (show 1<=o.af/\o.af<=7 by omega)]
 rfl
theorem as8{o:M.Op}(h:kN o)(hk:o.af=3):∃s,o.bM=[s]/\uh s/\(bJ o).cO=[s.eF,s.shift,o.lo,o.hi]:=by
 have hl:o.bM.length=1:=by rw[h.bM,hk];rfl
 obtain⟨s,hs⟩:=Ds hl;refine⟨s,hs,h.gI s (by rw[hs];simp),?_⟩;show iH o=_;unfold iH;rw[hs,ak (by omega),ak (by omega),ak (by omega),ay (by omega)]
 rfl
theorem as9{o:M.Op}(h:kN o)(hk:o.af=4):∃s t u,o.bM=[s,t,u]/\uh s/\uh t/\uh u/\(bJ o).cO=[s.eF,s.shift,t.eF,t.shift,u.eF,u.shift,o.lo,o.hi]:=by
 have hl:o.bM.length=3:=by rw[h.bM,hk];rfl
 obtain⟨s,t,u,hs⟩:=adK hl;refine⟨s,t,u,hs,h.gI s (by rw[hs];simp),h.gI t (by rw[hs];simp),h.gI u (by rw[hs];simp),?_⟩;show iH o=_;unfold iH;rw[hs,ak (by omega),ak (by omega),ak (by omega),ay (by omega)]
 rfl
theorem UL{o:M.Op}(h:kN o)(h1:M.cm o.af=false)(h4:o.af≠4):o.bM=[]:=by
 have hl:o.bM.length=0:=by rw[h.bM,ak (by rw[h1];decide),ak h4]
 exact List.eq_nil_of_length_eq_zero hl
theorem ata{o:M.Op}(h:kN o)(hk:o.af=5\/o.af=6):(bJ o).cO=[o.size,o.aE,o.lo,o.hi]:=by
 have hs:=UL h (by rcases hk with k|k<;>rw[k]<;>rfl) (by omega);show iH o=_;unfold iH;rw[hs,ak (by omega),ay hk,ay (by omega)]
 rfl
theorem atb{o:M.Op}(h:kN o)(hk:o.af=7):(bJ o).cO=[o.lo,o.hi]:=by
 have hs:=UL h (by rw[hk];rfl) (by omega);show iH o=_;unfold iH;rw[hs,ak (by omega),ak (by omega),ak (by omega),ay (by omega)]
 rfl
theorem atc{o:M.Op}(h:kN o)(hk:o.af=8):(bJ o).cO=[o.aT,o.below,o.left,o.right]:=by
 have hs:=UL h (by rw[hk];rfl) (by omega);show iH o=_;unfold iH;rw[hs,ak (by omega),ak (by omega),ay hk,ak (by omega)]
 rfl
structure zS(m:M.Md)(E:List (List Int))(o:M.Op)(la lb:List Int):Prop where
 F:O.jQ m o la lb
 a:∃na:Nat,o.a=na/\m.au[na]?=some (M.aq m o.a)/\E[na]?=some la
 b:M.dr o.af=true->∃nb:Nat,o.b=nb/\m.au[nb]?=some (M.aq m o.b)/\E[nb]?=some lb
 ws:M.cm o.af=true->∃nw ni:Nat,o.aP=nw/\o.bC=ni/\m.au[nw]?=some (M.aq m o.aP)/\m.au[ni]?=some (M.aq m o.bC)/\E[nw]?=some (M.aq m o.aP).data/\E[ni]?=some (M.aq m o.bC).data
 z:∃nz:Nat,o.to=nz/\m.au[nz]?=some (M.aq m o.to)
 ka:0<=(M.aq m o.a).af/\(M.aq m o.a).af<=3
theorem Ld{c:M.Sc}(h:uh c)(hq:M.rH c=true):0<=c.eF/\c.eF<=2147483647/\-31<=c.shift/\c.shift<=30:=by
 have:=(Gz h).mp hq;have:=h.m1;omega
theorem Cf{x:Int}{c:M.Sc}(h:-31<=c.shift):-2147483648<=R.iN x c.eF c.shift/\R.iN x c.eF c.shift<=2147483648:=by
 rw[<-O.ML];exact O.Cf h
theorem atd{m:M.Md}{o:M.Op}{la lb:List Int}(F:O.jQ m o la lb)(hk:o.af=1\/o.af=2){y x c:Int}(c0:0<=c)(c1:c<(M.aq m o.to).c):-1090453504<=D.uf o (O.dd m o la lb) y x c/\D.uf o (O.dd m o la lb) y x c<=1090453504:=by
 have hW:M.cm o.af=true:=by rcases hk with h|h<;>rw[h]<;>rfl
 rw[<-O.Xx F hk c0 c1];have ew:(O.start m o la lb).aP=O.fg (M.aq m o.aP) (M.aq m o.aP).data:=ay hW;have wn:=F.lR hk;have ac:=F.a.c0;refine F.ok.vI y x c _ _ _ ?_ ?_
 ·rw[ew]
  show(M.aq m o.aP).h*(M.aq m o.aP).w*((if o.af=1 then (M.aq m o.a).c else c+1)-(if o.af=1 then 0 else c))<=512;rcases hk with h|h
  ·rw[ay h,ay h,Int.sub_zero];rw[ay h] at wn;exact wn
  ·rw[ak (by omega),ak (by omega),show c+1-c=1 by omega];rw[ak (by omega)] at wn;exact wn
 ·rcases hk with h|h
  ·rw[ay h,ay h];omega
  ·rw[ak (by omega),ak (by omega)];omega
end R
open RowKit
def Bv(g:R.bX)(m:M.Md):Prop:=g.ts=m.au
theorem Le{m:M.Md}{o:M.Op}{la lb:List Int}(F:O.jQ m o la lb){s:M.Sc}(hs:s∈o.bM):M.rH s=true:=by
 have h:=F.ur;unfold M.kB at h;rw[eX,eX,jn] at h;exact h.1.2 s hs
theorem aeS(r gb ga c1 cb p off:Nat)(g:R.bX)(E:List (List Int))(m:M.Md)(o:M.Op)(la lb:List Int)(y x c:Int)(w:World)(hR:jB w r gb ga c1 cb g E)(hO:j6 w p off (R.bJ o))(hg:Bv g m)(hD:R.zS m E o la lb)(hk:o.af=1\/o.af=2)
  (y0:0<=y) (y1:y<(M.aq m o.to).h) (x0:0<=x) (x1:x<(M.aq m o.to).w) (k0:0<=c) (k1:c<(M.aq m o.to).c):
 Calls prog 91 #[.pointer (some ⟨r,0,none⟩),.pointer (some ⟨p,off,none⟩),.int .i64 y,.int .i64 x,.int .i64 c] w fun e w'=>e=.returned (.int .i64 (D.cell o (O.dd m o la lb) y x c))/\w.grownBy w' none:=by
 have F:=hD.F;have hW:M.cm o.af=true:=by rcases hk with h|h<;>rw[h]<;>rfl
 obtain⟨na,ea,ta,lG⟩:=hD.a;obtain⟨nw,ni,ew,ei,tw,ti,Lg,Lh⟩:=hD.ws hW;obtain⟨nz,ez,tz⟩:=hD.z;rw[<-hg] at ta tw ti tz;obtain⟨s,hs,fs,hn⟩:=R.as7 F.dQ hk;have sq:=R.Ld fs (Le F (by rw[hs];simp));have aeT:=R.asG F hk y0 y1 x0 x1 k0 k1;have xY:=ae (asI r gb ga c1 cb p off g E o na nw ni (M.aq m o.bC) (O.dd m o la lb) y x c w hR hO (by rw[R.zJ hW,ea,ew,ei]) ⟨[s.eF,s.shift,o.lo,o.hi],hn,rfl⟩ ta tw ti lG Lg Lh (by have f:=F.bi hW;exact⟨by have:=f.w0;omega,f.w1,by have:=f.c0;omega,f.c1⟩) aeT);have wr:=R.atd F hk (y:=y) (x:=x) k0 k1;have He:=ae (D.Mt (O.dd m o la lb) y x c hk);have Hq:Hid (D.ug o (O.dd m o la lb) (D.uf o (O.dd m o la lb) y x c) 0=R.cW (R.iN (D.uf o (O.dd m o la lb) y x c) s.eF s.shift+(M.aq m o.to).zero) o.lo o.hi):=by
  unfold Hid D.ug D.jD D.BY;rw[hs];rfl
 obtain⟨sv,m9⟩:∃v,Hid (D.uf o (O.dd m o la lb) y x c=v):=⟨_,rfl⟩;rw[m9.out] at wr xY Hq He;have sF:=ae (fun(W:World) (E3:jB W r gb ga c1 cb g E) (Li:j6 W p off (R.bJ o))=>Ur r gb ga c1 cb p off g E (R.bJ o) 2 nz sv s.eF s.shift o.lo o.hi (M.aq m o.to) W E3 Li (by rw[hn];rfl) (by rw[hn];rfl) (by rw[hn];rfl) (by rw[hn];rfl) tz ez (by rw[hn];simp) (by omega) (by omega) sq.1 sq.2.1 sq.2.2.1 sq.2.2.2 ⟨F.z.z0,F.z.z1⟩ (R.Cf sq.2.2.1));obtain⟨jL,sE⟩:∃v,Hid (R.cW (R.iN sv s.eF s.shift+(M.aq m o.to).zero) o.lo o.hi=v):=⟨_,rfl⟩;rw[sE.out] at sF Hq;rw[He.out,Hq.out];have HR:=ae hR;have HO:=ae hO;obtain⟨ai,ci,an,cn,o0,-⟩:=hO;have sG:w.cell? ⟨p,off,none⟩=some (.int .i64 o.af):=o0;clear o0 hR hD F hg ta tw ti tz lG Lg Lh hn sq fs hs aeT wr y0 y1 x0 x1 k0 k1 ea ew ei ez He Hq;rcases hk with hk|hk
 ·rw[hk] at sG
  go_enter func91,ntmps91;go_wp2_with fail;refine xY.out.mono ?_;rintro e w1⟨rfl,g1⟩;have G1:=ae g1;clear g1 sG;go_wp2_with fail;refine(sF.out w1 (HR.out.Z G1.out) (HO.out.Z G1.out)).mono ?_;rintro e w2⟨rfl,nd,rfl⟩;go_wp2;go_ret;exact⟨rfl,aC G1.out (bE _ _ _)⟩
 ·rw[hk] at sG
  go_enter func91,ntmps91;go_wp2_with fail;refine xY.out.mono ?_;rintro e w1⟨rfl,g1⟩;have G1:=ae g1;clear g1 sG;go_wp2_with fail;refine(sF.out w1 (HR.out.Z G1.out) (HO.out.Z G1.out)).mono ?_;rintro e w2⟨rfl,nd,rfl⟩;go_wp2;go_ret;exact⟨rfl,aC G1.out (bE _ _ _)⟩
theorem aeU(r gb ga c1 cb p off:Nat)(g:R.bX)(E:List (List Int))(m:M.Md)(o:M.Op)(la lb:List Int)(y x c:Int)(w:World)(hR:jB w r gb ga c1 cb g E)(hO:j6 w p off (R.bJ o))(hg:Bv g m)(hD:R.zS m E o la lb)(hk:o.af=5\/o.af=6)
  (y0:0<=y) (y1:y<(M.aq m o.to).h) (x0:0<=x) (x1:x<(M.aq m o.to).w) (k0:0<=c) (k1:c<(M.aq m o.to).c):
 Calls prog 91 #[.pointer (some ⟨r,0,none⟩),.pointer (some ⟨p,off,none⟩),.int .i64 y,.int .i64 x,.int .i64 c] w fun e w'=>e=.returned (.int .i64 (D.cell o (O.dd m o la lb) y x c))/\w.grownBy w' none:=by
 have F:=hD.F;obtain⟨na,ea,ta,lG⟩:=hD.a;rw[<-hg] at ta;have hn:=R.ata F.dQ hk;have hp:=R.asV F hk y0 y1 x0 x1 k0 k1;have cY:(R.bJ o).ins=[(na:Int)]:=by rw[R.Di (by rcases hk with h|h<;>rw[h]<;>decide) (by rcases hk with h|h<;>rw[h]<;>decide),ea]
 have xY:=ae (asZ r gb ga c1 cb p off g E o na o.size.toNat (O.dd m o la lb) y x c w hR hO hk cY ⟨o.lo,o.hi,hn⟩ ta lG hp);obtain⟨sv,m9⟩:∃v,Hid ((if o.af=5 then D.lp (D.iY o (O.dd m o la lb) y x c) (D.yM o) else D.Aq (D.S (D.iY o (O.dd m o la lb) y x c) (D.yM o)) (o.size*o.size))=v):=⟨_,rfl⟩;have He:Hid (D.cell o (O.dd m o la lb) y x c=R.cW sv o.lo o.hi):=by
  unfold Hid;rw[<-m9.out];rcases hk with h|h
  ·rw[D.Mw _ _ _ _ h,ay h]
  ·rw[D.Mx _ _ _ _ h,ak (by omega)]
 rw[m9.out] at xY;rw[He.out];have sF:=ae (fun W=>TO sv o.lo o.hi W);obtain⟨jL,sE⟩:∃v,Hid (R.cW sv o.lo o.hi=v):=⟨_,rfl⟩;rw[sE.out] at sF ⊢;obtain⟨ai,ci,an,cn,o0,o1,o2,o3,hI,hN⟩:=hO;have sG:w.cell? ⟨p,off,none⟩=some (.int .i64 o.af):=o0;rw[hn] at o3 hN;have u9:w.cell? ⟨p,off+3,none⟩=some (.slice an 4 cn):=o3;obtain⟨gn,e1,-,-,n2⟩:=hN.get 2 o.lo rfl;subst e1;obtain⟨_,e1,-,-,n3⟩:=hN.get 3 o.hi rfl;injection e1 with e1;injection e1 with e1 _ _;subst e1;have O3:=ae u9;have N2:=ae n2;have N3:=ae n3;clear o0 o1 o2 o3 u9 n2 n3 hI hN hR hD F hg ta lG hn hp cY y0 y1 x0 x1 k0 k1 ea He m9;rcases hk with hk|hk
 all_goals
  rw[hk] at sG;clear hk;go_enter func91,ntmps91;go_wp2_with fail;refine xY.out.mono ?_;rintro e w1⟨rfl,g1⟩;have G1:=ae g1;have q3:=aG g1 O3.out;have d2:=aG g1 N2.out;have d3:=aG g1 N3.out;clear g1 sG;go_wp2_with fail;go_quiet(exact mU (sF.out _));go_wp2;go_ret;exact⟨rfl,aC G1.out (bE _ _ _)⟩
theorem ate(r gb ga c1 cb p off:Nat)(g:R.bX)(E:List (List Int))(m:M.Md)(o:M.Op)(la lb:List Int)(y x c:Int)(w:World)(hR:jB w r gb ga c1 cb g E)(hO:j6 w p off (R.bJ o))(hg:Bv g m)(hD:R.zS m E o la lb)(hk:o.af=7)
  (y0:0<=y) (y1:y<(M.aq m o.to).h) (x0:0<=x) (x1:x<(M.aq m o.to).w) (k0:0<=c) (k1:c<(M.aq m o.to).c):
 Calls prog 91 #[.pointer (some ⟨r,0,none⟩),.pointer (some ⟨p,off,none⟩),.int .i64 y,.int .i64 x,.int .i64 c] w fun e w'=>e=.returned (.int .i64 (D.cell o (O.dd m o la lb) y x c))/\w.grownBy w' none:=by
 have F:=hD.F;obtain⟨na,ea,ta,lG⟩:=hD.a;rw[<-hg] at ta;have hn:=R.atb F.dQ hk;have cY:(R.bJ o).ins=[(na:Int)]:=by rw[R.Di (by rw[hk];decide) (by rw[hk];decide),ea]
 obtain⟨a1,a2,a3⟩:=(O.At _ _).mp ((O.vJ F.bT).2.1 hk);have fa:=F.a;have yt:la.length<=512:=by have:=F.na;have:=fa.mn;omega
 have hi:=R.wV (t:=M.aq m o.a) (l:=la) (y:=y) (x:=x) (c:=c) F.na ((O.s8 _ _ _).mpr ⟨y0,by omega,x0,by omega⟩) k0 (by omega);have xY:=ae (uZ r gb ga c1 cb g E na (M.aq m o.a) la y x c w hR ta lG (by have:=fa.h1;omega) (by have:=fa.w1;omega) (by have:=fa.c1;omega) ⟨by have:=fa.w0;omega,fa.w1⟩ ⟨by have:=fa.c0;omega,fa.c1⟩ hi.1 hi.2 (by omega));have He:=ae (D.Fz (O.dd m o la lb) y x c hk);obtain⟨sv,m9⟩:∃v,Hid (D.bN (M.aq m o.a) la y x c=v):=⟨_,rfl⟩;have kD:Hid (D.cell o (O.dd m o la lb) y x c=R.cW sv o.lo o.hi):=by unfold Hid;rw[He.out,<-m9.out];rfl
 rw[m9.out] at xY;rw[kD.out];have sF:=ae (fun W=>TO sv o.lo o.hi W);obtain⟨jL,sE⟩:∃v,Hid (R.cW sv o.lo o.hi=v):=⟨_,rfl⟩;rw[sE.out] at sF ⊢;obtain⟨ai,ci,an,cn,o0,o1,o2,o3,hI,hN⟩:=hO;have sG:w.cell? ⟨p,off,none⟩=some (.int .i64 7):=by rw[<-hk];exact o0
 rw[hn] at o3 hN;rw[cY] at o1 hI;have u9:w.cell? ⟨p,off+3,none⟩=some (.slice an 2 cn):=o3;have vb:w.cell? ⟨p,off+1,none⟩=some (.slice ai 1 ci):=o1;obtain⟨gi,e1,-,-,i0⟩:=hI.get 0 (na:Int) rfl;subst e1;obtain⟨gn,e1,-,-,n2⟩:=hN.get 0 o.lo rfl;subst e1;obtain⟨_,e1,-,-,n3⟩:=hN.get 1 o.hi rfl;injection e1 with e1;injection e1 with e1 _ _;subst e1;have O3:=ae u9;have N2:=ae n2;have N3:=ae n3;clear o0 o1 o2 o3 u9 n2 n3 hI hN hR hD F hg ta lG hn cY y0 y1 x0 x1 k0 k1 ea He kD m9 hk a1 a2 a3 fa yt hi;go_enter func91,ntmps91;go_wp2_with fail;refine xY.out.mono ?_;rintro e w1⟨rfl,nd,rfl⟩;have G1:=ae (bE w nd none);have q3:=aG G1.out O3.out;have d2:=aG G1.out N2.out;have d3:=aG G1.out N3.out;clear sG vb i0;generalize w.drewN nd=w1 at *;go_wp2_with fail;go_quiet(exact mU (sF.out _));go_wp2;go_ret;exact⟨rfl,aC G1.out (bE _ _ _)⟩
theorem atf(r gb ga c1 cb p off:Nat)(g:R.bX)(E:List (List Int))(m:M.Md)(o:M.Op)(la lb:List Int)(y x c:Int)(w:World)(hR:jB w r gb ga c1 cb g E)(hO:j6 w p off (R.bJ o))(hg:Bv g m)(hD:R.zS m E o la lb)(hk:o.af=8)
  (y0:0<=y) (y1:y<(M.aq m o.to).h) (x0:0<=x) (x1:x<(M.aq m o.to).w) (k0:0<=c) (k1:c<(M.aq m o.to).c):
 Calls prog 91 #[.pointer (some ⟨r,0,none⟩),.pointer (some ⟨p,off,none⟩),.int .i64 y,.int .i64 x,.int .i64 c] w fun e w'=>e=.returned (.int .i64 (D.cell o (O.dd m o la lb) y x c))/\w.grownBy w' none:=by
 have F:=hD.F;obtain⟨na,ea,ta,lG⟩:=hD.a;obtain⟨nz,ez,tz⟩:=hD.z;rw[<-hg] at ta tz;have hn:=R.atc F.dQ hk;have cY:(R.bJ o).ins=[(na:Int)]:=by rw[R.Di (by rw[hk];decide) (by rw[hk];decide),ea]
 obtain⟨a1,a2,a3⟩:=(O.vJ F.bT).2.2.2.1 hk;have fa:=F.a;have fz:=F.z;have b1:=F.dQ.aT;have b2:=F.dQ.below;have b3:=F.dQ.left;have b4:=F.dQ.right;unfold fQ at b1 b2 b3 b4;have yt:la.length<=512:=by have:=F.na;have:=fa.mn;omega
 have He:=ae (D.My (O.dd m o la lb) y x c hk);have UC:=ae (fun W h=>aeo r gb ga c1 cb g E na (M.aq m o.a) (y-o.aT) (x-o.left) W h ta);have w1:IntKind.i64.wrap (y-o.aT)=y-o.aT:=by rw[cU];have:=fz.h1;omega
 have w2:IntKind.i64.wrap (x-o.left)=x-o.left:=by rw[cU];have:=fz.w1;omega
 have HR:=ae hR;have q0:=hR.p;have q2:=hR.t.q;have zz:=(hR.t.t nz _ tz).z;have wH:=M.bP tz;have wG:=hR.pd;obtain⟨ai,ci,an,cn,o0,o1,o2,o3,hI,hN⟩:=hO;have sG:w.cell? ⟨p,off,none⟩=some (.int .i64 8):=by rw[<-hk];exact o0
 rw[hn] at o3 hN;rw[cY] at o1 hI;have u9:w.cell? ⟨p,off+3,none⟩=some (.slice an 4 cn):=o3;have vb:w.cell? ⟨p,off+1,none⟩=some (.slice ai 1 ci):=o1;have yq:w.cell? ⟨p,off+2,none⟩=some (.int .i64 nz):=by rw[<-ez];exact o2
 obtain⟨gi,e1,-,-,i0⟩:=hI.get 0 (na:Int) rfl;subst e1;obtain⟨gn,e1,-,-,n0⟩:=hN.get 0 o.aT rfl;subst e1;obtain⟨_,e1,-,-,n2⟩:=hN.get 2 o.left rfl;injection e1 with e1;injection e1 with e1 _ _;subst e1;have O1:=ae vb;have O2:=ae yq;have O3:=ae u9;have I0:=ae i0;have N0:=ae n0;have N2:=ae n2;have Q0:=ae q0;have Q2:=ae q2;have ZZ:=ae zz;have HC:=ae (fun nd=>UC.out (w.drewN nd) (HR.out.Z (bE w nd none)));have tS:Hid (D.cell o (O.dd m o la lb) y x c=if D.oq (M.aq m o.a) (y-o.aT) (x-o.left)=true then D.bN (M.aq m o.a) la (y-o.aT) (x-o.left) c else (M.aq m o.to).zero):=He.out;have wJ:Hid (D.oq (M.aq m o.a) (y-o.aT) (x-o.left)=true->∀(W:World),jB W r gb ga c1 cb g E->Calls prog 127 #[.pointer (some ⟨r,0,none⟩),.int .i64 na,.int .i64 (y-o.aT),.int .i64 (x-o.left),.int .i64 c] W fun e w'=>e=.returned (.int .i64 (D.bN (M.aq m o.a) la (y-o.aT) (x-o.left) c))/\∃n,w'=W.drewN n):=fun hi W hW=>by
  have i:=R.wV (t:=M.aq m o.a) (l:=la) (c:=c) F.na hi k0 (by omega);exact uZ r gb ga c1 cb g E na (M.aq m o.a) la (y-o.aT) (x-o.left) c W hW ta lG (by have:=fz.h1;omega) (by have:=fz.w1;omega) (by have:=fa.c1;omega) ⟨by have:=fa.w0;omega,fa.w1⟩ ⟨by have:=fa.c0;omega,fa.c1⟩ i.1 i.2 (by omega)
 obtain⟨jL,sE⟩:∃v,Hid (D.cell o (O.dd m o la lb) y x c=v):=⟨_,rfl⟩;rw[sE.out] at tS ⊢;obtain⟨bi,Hbi⟩:∃b,Hid (D.oq (M.aq m o.a) (y-o.aT) (x-o.left)=b):=⟨_,rfl⟩;obtain⟨av,UM⟩:∃v,Hid (D.bN (M.aq m o.a) la (y-o.aT) (x-o.left) c=v):=⟨_,rfl⟩;rw[Hbi.out] at HC tS wJ;rw[UM.out] at tS wJ;clear o0 o1 o2 o3 u9 yq hI hN hR hD F hg ta tz lG hn cY y0 y1 x0 x1 k0 k1 ea ez He hk a1 a2 a3 fa fz yt b1 b2 b3 b4 q0 q2 zz;generalize (M.aq m o.to).zero=zv at *;have u9:=O3.out;go_enter func91,ntmps91;go_wp2_with fail;go_quiet(exact mU (HC.out _));have G1:=ae (bE w nq none);clear sG vb i0 n0 n2 u9 HC;have R1:=ae (HR.out.Z G1.out);have vb:=aG G1.out O1.out;have yq:=aG G1.out O2.out;have u9:=aG G1.out O3.out;have i0:=aG G1.out I0.out;have n0:=aG G1.out N0.out;have n2:=aG G1.out N2.out;have q0:=aG G1.out Q0.out;have q2:=aG G1.out Q2.out;have zz:=aG G1.out ZZ.out;generalize w.drewN nq=w1 at *
 cases bi with
 |false=>
  have Hr:Hid (zv=jL):=by unfold Hid;rw[tS.out];rfl
  go_wp2;go_quiet(fail);go_wp2;go_ret;exact⟨cH Hr.out,aC G1.out (bE _ _ _)⟩
 |true=>
  have Hr:Hid (av=jL):=by unfold Hid;rw[tS.out];rfl
  have HC:=ae (fun nd=>wJ.out rfl (w1.drewN nd) (R1.out.Z (bE w1 nd none)));go_wp2_with fail;go_quiet(exact Calls.quiet_of (HC.out _));go_wp2;go_ret;exact⟨cH Hr.out,aC G1.out (bE _ _ _)⟩
theorem ath(r gb ga c1 cb p off:Nat)(g:R.bX)(E:List (List Int))(m:M.Md)(o:M.Op)(la lb:List Int)(y x c:Int)(w:World)(hR:jB w r gb ga c1 cb g E)(hO:j6 w p off (R.bJ o))(hg:Bv g m)(hD:R.zS m E o la lb)(hk:o.af=10)
  (y0:0<=y) (y1:y<(M.aq m o.to).h) (x0:0<=x) (x1:x<(M.aq m o.to).w) (k0:0<=c) (k1:c<(M.aq m o.to).c):
 Calls prog 91 #[.pointer (some ⟨r,0,none⟩),.pointer (some ⟨p,off,none⟩),.int .i64 y,.int .i64 x,.int .i64 c] w fun e w'=>e=.returned (.int .i64 (D.cell o (O.dd m o la lb) y x c))/\w.grownBy w' none:=by
 have F:=hD.F;have h2:M.dr o.af=true:=by rw[hk];rfl
 obtain⟨na,ea,ta,lG⟩:=hD.a;obtain⟨nb,eb,tb,E2⟩:=hD.b h2;rw[<-hg] at ta tb;have cY:(R.bJ o).ins=[(na:Int),(nb:Int)]:=by rw[R.Dh h2,ea,eb]
 obtain⟨a1,a2,a3,a4,a5⟩:=(O.vJ F.bT).2.2.2.2.2 hk;have fa:=F.a;have fb:=F.b h2;have fz:=F.z;have yt:la.length<=512:=by have:=F.na;have:=fa.mn;omega
 have pQ:lb.length<=512:=by have:=F.nb h2;have:=fb.mn;omega
 have He:=ae (D.MA (O.dd m o la lb) y x c hk);have tS:Hid (D.cell o (O.dd m o la lb) y x c=if c<(M.aq m o.a).c then D.bN (M.aq m o.a) la y x c else D.bN (M.aq m o.b) lb y x (c-(M.aq m o.a).c)):=He.out;have HR:=ae hR;have q0:=hR.p;have q2:=hR.t.q;have ac:=(hR.t.t na _ ta).c;have kL:=M.bP ta;have wG:=hR.pd;have hca:=fa.c0;have ayU:=fa.c1;have Kd:=fz.c1;have tR:Hid (c<(M.aq m o.a).c->∀W,jB W r gb ga c1 cb g E->Calls prog 127 #[.pointer (some ⟨r,0,none⟩),.int .i64 na,.int .i64 y,.int .i64 x,.int .i64 c] W fun e w'=>e=.returned (.int .i64 (D.bN (M.aq m o.a) la y x c))/\∃n,w'=W.drewN n):=fun hc W hW=>by
  have i:=R.wV (t:=M.aq m o.a) (l:=la) (y:=y) (x:=x) (c:=c) F.na ((O.s8 _ _ _).mpr ⟨y0,by omega,x0,by omega⟩) k0 hc;exact uZ r gb ga c1 cb g E na (M.aq m o.a) la y x c W hW ta lG (by have:=fz.h1;omega) (by have:=fz.w1;omega) (by omega) ⟨by have:=fa.w0;omega,fa.w1⟩ ⟨by have:=fa.c0;omega,fa.c1⟩ i.1 i.2 (by omega)
 have tG:Hid (¬c<(M.aq m o.a).c->∀W,jB W r gb ga c1 cb g E->Calls prog 127 #[.pointer (some ⟨r,0,none⟩),.int .i64 nb,.int .i64 y,.int .i64 x,.int .i64 (c-(M.aq m o.a).c)] W fun e w'=>e=.returned (.int .i64 (D.bN (M.aq m o.b) lb y x (c-(M.aq m o.a).c)))/\∃n,w'=W.drewN n):=fun hc W hW=>by
  have i:=R.wV (t:=M.aq m o.b) (l:=lb) (y:=y) (x:=x) (c:=c-(M.aq m o.a).c) (F.nb h2) ((O.s8 _ _ _).mpr ⟨y0,by omega,x0,by omega⟩) (by omega) (by omega);exact uZ r gb ga c1 cb g E nb (M.aq m o.b) lb y x _ W hW tb E2 (by have:=fz.h1;omega) (by have:=fz.w1;omega) (by omega) ⟨by have:=fb.w0;omega,fb.w1⟩ ⟨by have:=fb.c0;omega,fb.c1⟩ i.1 i.2 (by omega)
 obtain⟨jL,sE⟩:∃v,Hid (D.cell o (O.dd m o la lb) y x c=v):=⟨_,rfl⟩;rw[sE.out] at tS ⊢;obtain⟨av,UM⟩:∃v,Hid (D.bN (M.aq m o.a) la y x c=v):=⟨_,rfl⟩;obtain⟨bv,Hbv⟩:∃v,Hid (D.bN (M.aq m o.b) lb y x (c-(M.aq m o.a).c)=v):=⟨_,rfl⟩;rw[UM.out] at tS tR;rw[Hbv.out] at tS tG;have wc:IntKind.i64.wrap (c-(M.aq m o.a).c)=c-(M.aq m o.a).c:=by rw[cU];omega
 obtain⟨ai,ci,an,cn,o0,o1,o2,o3,hI,hN⟩:=hO;have sG:w.cell? ⟨p,off,none⟩=some (.int .i64 10):=by rw[<-hk];exact o0
 rw[cY] at o1 hI;have vb:w.cell? ⟨p,off+1,none⟩=some (.slice ai 2 ci):=o1;obtain⟨gi,e1,-,-,i0⟩:=hI.get 0 (na:Int) rfl;subst e1;obtain⟨_,e1,-,-,i1⟩:=hI.get 1 (nb:Int) rfl;injection e1 with e1;injection e1 with e1 _ _;subst e1;have O1:=ae vb;have I0:=ae i0;have I1:=ae i1;clear o0 o1 o2 o3 hI hN hR hD F hg ta tb lG E2 cY y0 y1 x0 x1 ea eb He hk a1 a2 a3 a4 a5 fa fb fz yt pQ h2;generalize (M.aq m o.a).c=cc at *;go_enter func91,ntmps91;go_wp2_with fail;go_quiet(fail);have G1:=ae (bE w nq none);clear sG vb i0 i1 q0 q2 ac;have R1:=ae (HR.out.Z G1.out);have vb:=aG G1.out O1.out;have i0:=aG G1.out I0.out;have i1:=aG G1.out I1.out;generalize w.drewN nq=w1 at *;by_cases hc:c<cc
 ·have Hr:Hid (av=jL):=by unfold Hid;rw[tS.out,ay hc]
  have HC:=ae (tR.out hc w1 R1.out);go_wp2_with fail;refine HC.out.mono ?_;rintro e w2⟨rfl,nd,rfl⟩;go_wp2;go_ret;exact⟨cH Hr.out,aC G1.out (bE _ _ _)⟩
 ·have Hr:Hid (bv=jL):=by unfold Hid;rw[tS.out,ak hc]
  have HC:=ae (tG.out (by omega) w1 R1.out);go_wp2_with fail;refine HC.out.mono ?_;rintro e w2⟨rfl,nd,rfl⟩;go_wp2;go_ret;exact⟨cH Hr.out,aC G1.out (bE _ _ _)⟩
theorem atj(r gb ga c1 cb p off:Nat)(g:R.bX)(E:List (List Int))(m:M.Md)(o:M.Op)(la lb:List Int)(y x c:Int)(w:World)(hR:jB w r gb ga c1 cb g E)(hO:j6 w p off (R.bJ o))(hg:Bv g m)(hD:R.zS m E o la lb)(hk:o.af=9)
  (y0:0<=y) (y1:y<(M.aq m o.to).h) (x0:0<=x) (x1:x<(M.aq m o.to).w) (k0:0<=c) (k1:c<(M.aq m o.to).c):
 Calls prog 91 #[.pointer (some ⟨r,0,none⟩),.pointer (some ⟨p,off,none⟩),.int .i64 y,.int .i64 x,.int .i64 c] w fun e w'=>e=.returned (.int .i64 (D.cell o (O.dd m o la lb) y x c))/\w.grownBy w' none:=by
 have F:=hD.F;obtain⟨na,ea,ta,lG⟩:=hD.a;obtain⟨nz,ez,tz⟩:=hD.z;rw[<-hg] at ta tz;have cY:(R.bJ o).ins=[(na:Int)]:=by rw[R.Di (by rw[hk];decide) (by rw[hk];decide),ea]
 have a1:=(O.vJ F.bT).2.2.2.2.1 hk;have fa:=F.a;have fz:=F.z;have yt:la.length<=512:=by have:=F.na;have:=fa.mn;omega
 have hlz:(la.length:Int)=(M.aq m o.to).h*(M.aq m o.to).w*(M.aq m o.to).c:=by have:=F.na;rw[a1] at this;exact this
 have hi:=R.wV (t:=M.aq m o.to) (l:=la) (y:=y) (x:=x) (c:=c) hlz ((O.s8 _ _ _).mpr ⟨y0,y1,x0,x1⟩) k0 k1;have He:=ae (D.Mz (O.dd m o la lb) y x c hk);have tS:Hid (D.cell o (O.dd m o la lb) y x c=D.get la ((y*(M.aq m o.to).w+x)*(M.aq m o.to).c+c)):=He.out;obtain⟨i,mB⟩:=fT hi.1;have fq:i<la.length:=by have:=hi.2;omega
 obtain⟨v,hv⟩:∃v,la[i]?=some v:=⟨_,aS fq⟩;have Hr:Hid (D.cell o (O.dd m o la lb) y x c=v):=by unfold Hid;rw[tS.out];unfold D.get;rw[mB,ak (by omega),eC,List.getD,hv];rfl
 obtain⟨aa,cp,d1,hS⟩:=hR.e na la lG;obtain⟨ad,rfl,dv⟩:=hS.get i v hv;have q0:=hR.p;have q1:=hR.c;have q2:=hR.t.q;have hT:=hR.t.t nz _ tz;have t2:=hT.v;have t3:=hT.c;have wH:=M.bP tz;have kL:=M.bP ta;have wG:=hR.pd;have eM:=fz.w1;have MC:=fz.w0;have AT:=fz.c1;have vC:=fz.c0;have hh1:=fz.h1;have m1:=O.kR (a:=y) (b:=(M.aq m o.to).w) (A:=255) (B:=255) (by omega) (by omega);have m2:=O.kR (a:=y*(M.aq m o.to).w+x) (b:=(M.aq m o.to).c) (A:=100000) (B:=255) (by omega) (by omega);have w1:IntKind.i64.wrap (y*(M.aq m o.to).w)=y*(M.aq m o.to).w:=by rw[cU];omega
 have w2:IntKind.i64.wrap (y*(M.aq m o.to).w+x)=y*(M.aq m o.to).w+x:=by rw[cU];omega
 have w3:IntKind.i64.wrap ((y*(M.aq m o.to).w+x)*(M.aq m o.to).c)=(y*(M.aq m o.to).w+x)*(M.aq m o.to).c:=by rw[cU];omega
 have w4:IntKind.i64.wrap ((y*(M.aq m o.to).w+x)*(M.aq m o.to).c+c)=(i:Int):=by rw[<-mB,cU];omega
 obtain⟨ai,ci,an,cn,o0,o1,o2,o3,hI,hN⟩:=hO;have sG:w.cell? ⟨p,off,none⟩=some (.int .i64 9):=by rw[<-hk];exact o0
 rw[cY] at o1 hI;have vb:w.cell? ⟨p,off+1,none⟩=some (.slice ai 1 ci):=o1;have yq:w.cell? ⟨p,off+2,none⟩=some (.int .i64 nz):=by rw[<-ez];exact o2
 obtain⟨gi,e1,-,-,i0⟩:=hI.get 0 (na:Int) rfl;subst e1;have ayV:la.length<=512:=yt;rw[Hr.out];have O1:=ae vb;have I0:=ae i0;have Q0:=ae q0;have Q1:=ae q1;have T2:=ae t2;have T3:=ae t3;have D1:=ae d1;have DV:=ae dv;clear o0 o1 o2 o3 hI hN hR hD F hg ta tz lG cY y0 y1 x0 x1 k0 k1 ea ez He tS hk a1 fa fz yt hlz hi mB hv hS hT m1 m2 eM MC AT vC hh1 t2 t3 d1 dv;generalize (M.aq m o.to).w=tw at *;generalize (M.aq m o.to).c=tc at *;go_enter func91,ntmps91;go_wp2_with fail;go_quiet(fail);have G1:=ae (bE w nq none);clear sG vb yq i0 q0 q1 q2;have vb:=aG G1.out O1.out;have i0:=aG G1.out I0.out;have q0:=aG G1.out Q0.out;have q1:=aG G1.out Q1.out;have t2:=aG G1.out T2.out;have t3:=aG G1.out T3.out;have d1:=aG G1.out D1.out;have dv:=aG G1.out DV.out;generalize w.drewN nq=w1 at *;go_wp2;go_quiet(fail);go_wp2;go_ret;exact⟨rfl,aC G1.out (bE _ _ _)⟩
structure Lj(w:World)(r gb ga c1 cb p off gi ci pq:Nat)(na nw ni af:Int)(a:M.Tn)(nA nI:Nat)(va vi:Value):Prop where
 q0:w.cell? ⟨r,0,none⟩=some (.pointer (some ⟨gb,0,none⟩))
 q1:w.cell? ⟨r,1,none⟩=some (.slice (some ⟨cb,0,none⟩) pq pq)
 q2:w.cell? ⟨gb,0,none⟩=some (.slice (some ⟨ga,0,none⟩) pq c1)
 o0:w.cell? ⟨p,off,none⟩=some (.int .i64 af)
 o1:w.cell? ⟨p,off+1,none⟩=some (.slice (some ⟨gi,0,none⟩) 3 ci)
 i0:w.cell? ⟨gi,0,none⟩=some (.int .i64 na)
 i1:w.cell? ⟨gi,1,none⟩=some (.int .i64 nw)
 i2:w.cell? ⟨gi,2,none⟩=some (.int .i64 ni)
 ah:w.cell? ⟨ga,nA*6+1,none⟩=some (.int .i64 a.h)
 aw:w.cell? ⟨ga,nA*6+2,none⟩=some (.int .i64 a.w)
 ac:w.cell? ⟨ga,nA*6+3,none⟩=some (.int .i64 a.c)
 az:w.cell? ⟨ga,nA*6+4,none⟩=some (.int .i64 a.zero)
 da:w.cell? ⟨cb,nA,none⟩=some va
 di:w.cell? ⟨cb,nI,none⟩=some vi
theorem Lj.Z{w w':World}{r gb ga c1 cb p off gi ci pq:Nat}{na nw ni af:Int}{a:M.Tn}{nA nI:Nat}{va vi:Value}(h:Lj w r gb ga c1 cb p off gi ci pq na nw ni af a nA nI va vi)(hg:w.grownBy w' none):Lj w' r gb ga c1 cb p off gi ci pq na nw ni af a nA nI va vi:=
 ⟨aG hg h.q0,aG hg h.q1,aG hg h.q2,aG hg h.o0,aG hg h.o1,aG hg h.i0,aG hg h.i1,aG hg h.i2,aG hg h.ah,aG hg h.aw,aG hg h.ac,aG hg h.az,aG hg h.da,aG hg h.di⟩
theorem atl(r gb ga c1 cb p off:Nat)(g:R.bX)(E:List (List Int))(m:M.Md)(o:M.Op)(la lb:List Int)(y x c:Int)(w:World)(hR:jB w r gb ga c1 cb g E)(hO:j6 w p off (R.bJ o))(hg:Bv g m)(hD:R.zS m E o la lb)(hk:o.af=3)
  (k0:0<=c) (k1:c<(M.aq m o.to).c):
 Calls prog 91 #[.pointer (some ⟨r,0,none⟩),.pointer (some ⟨p,off,none⟩),.int .i64 y,.int .i64 x,.int .i64 c] w fun e w'=>e=.returned (.int .i64 (D.cell o (O.dd m o la lb) y x c))/\w.grownBy w' none:=by
 have F:=hD.F;have hW:M.cm o.af=true:=by rw[hk];rfl
 obtain⟨na,ea,ta,lG⟩:=hD.a;obtain⟨nw,ni,ew,ei,tw,ti,Lg,Lh⟩:=hD.ws hW;obtain⟨nz,ez,tz⟩:=hD.z;rw[<-hg] at ta tw ti tz;obtain⟨s,hs,fs,hn⟩:=R.as8 F.dQ hk;have sq:=R.Ld fs (Le F (by rw[hs];simp));have UN:=O.Xy F.bT hk;have fa:=F.a;have fw:=F.w hW;have fz:=F.z;have fb:=F.bi hW;obtain⟨dw1,dw2,db1,db2,db3,dz1,dz2,dz3⟩:(M.aq m o.aP).w=1/\(M.aq m o.aP).c=M.cellsOf (M.aq m o.a)/\(M.aq m o.bC).h=1/\(M.aq m o.bC).w=1/\(M.aq m o.bC).c=(M.aq m o.aP).h/\(M.aq m o.to).h=1/\(M.aq m o.to).w=1/\(M.aq m o.to).c=(M.aq m o.aP).h:=by
  unfold M.qL M.isRow at UN;simp only[eX,beq_iff_eq] at UN;omega
 have dh:((M.aq m o.bC).data.length:Int)=(M.aq m o.to).c:=by
  have:=F.li hW;rw[this];unfold M.cellsOf;rw[db1,db2,db3,dz3];omega
 have yt:la.length<=512:=by have:=F.na;have:=fa.mn;omega
 have oh:(M.aq m o.aP).data.length<=512:=by have:=F.lw hW;have:=fw.mn;omega
 have wU:=R.aei F hW;obtain⟨cn_,xL⟩:=fT k0;obtain⟨bv,Pv⟩:∃v,(M.aq m o.bC).data[cn_]?=some v:=⟨_,aS (by omega)⟩;have UO:R.ds (O.dd m o la lb) c 0=bv:=by
  show D.get (M.aq m o.bC).data c+0=bv;rw[Int.add_zero];unfold D.get;rw[xL,ak (by omega),eC,List.getD,Pv];rfl
 obtain⟨aI,cI,dI,SI⟩:=hR.e ni _ Lh;obtain⟨adI,rfl,dbv⟩:=SI.get cn_ bv Pv;obtain⟨aA,cA,dA,SA⟩:=hR.e na _ lG;obtain⟨ai,ci,an,cn,o0,o1,o2,o3,hI,hN⟩:=hO;have UP:Hid (j6 w p off (R.bJ o)):=⟨ai,ci,an,cn,o0,o1,o2,o3,hI,hN⟩;have cY:(R.bJ o).ins=[(na:Int),(nw:Int),(ni:Int)]:=by rw[R.zJ hW,ea,ew,ei]
 rw[cY] at o1 hI;obtain⟨gi,e1,-,-,i0⟩:=hI.get 0 (na:Int) rfl;subst e1;obtain⟨_,e1,-,-,i1⟩:=hI.get 1 (nw:Int) rfl;injection e1 with e1;injection e1 with e1 _ _;subst e1;obtain⟨_,e1,-,-,i2⟩:=hI.get 2 (ni:Int) rfl;injection e1 with e1;injection e1 with e1 _ _;subst e1;have hA:=hR.t.t na _ ta;have HM:Hid (Lj w r gb ga c1 cb p off gi ci g.ts.length na nw ni 3 (M.aq m o.a) na ni (.slice aA la.length cA) (.slice (some adI) (M.aq m o.bC).data.length cI)):=⟨hR.p,hR.c,hR.t.q,by rw[<-hk];exact o0,o1,i0,i1,i2,hA.h,hA.v,hA.c,hA.z,dA,dI⟩;have HSA:=ae SA;have kL:=M.bP ta;have AU:=M.bP tw;have fq:=M.bP ti;have wG:=hR.pd;have HR:=ae hR;have hna:(M.cellsOf (M.aq m o.a))=(la.length:Int):=F.na.symm;have Pw:=ae (fun(W:World) (h:Lj W r gb ga c1 cb p off gi ci g.ts.length na nw ni 3 (M.aq m o.a) na ni (.slice aA la.length cA) (.slice (some adI) (M.aq m o.bC).data.length cI))=>GD ga (na*6) (M.aq m o.a) W ⟨hD.ka.1,hD.ka.2,by have:=fa.h0;omega,fa.h1,by have:=fa.w0;omega,fa.w1,by have:=fa.c0;omega,fa.c1,fa.z0,fa.z1⟩ h.ah h.aw h.ac);rw[hna] at Pw;have wJ:Hid (∀(i:Nat) (W:World),i<la.length->jB W r gb ga c1 cb g E->Calls prog 127 #[.pointer (some ⟨r,0,none⟩),.int .i64 nw,.int .i64 c,.int .i64 0,.int .i64 i] W fun e w'=>e=.returned (.int .i64 (D.bN (M.aq m o.aP) (M.aq m o.aP).data c 0 i))/\∃n,w'=W.drewN n):=fun i W hi hW=>by
  have q:=R.wV (t:=M.aq m o.aP) (l:=(M.aq m o.aP).data) (y:=c) (x:=0) (c:=(i:Int)) (F.lw (by rw[hk];rfl)) ((O.s8 _ _ _).mpr ⟨k0,by omega,by omega,by omega⟩) (by omega) (by omega);exact uZ r gb ga c1 cb g E nw (M.aq m o.aP) (M.aq m o.aP).data c 0 i W hW tw Lg (by have:=fz.c1;omega) (by omega) (by omega) ⟨by omega,by omega⟩ ⟨by have:=fw.c0;omega,fw.c1⟩ q.1 q.2 (by omega)
 have fm:Hid (∀(i:Nat) v,la[i]?=some v->R.ds (O.dd m o la lb) c (i+1)=R.ds (O.dd m o la lb) c i+(v-(M.aq m o.a).zero)*D.bN (M.aq m o.aP) (M.aq m o.aP).data c 0 i):=fun i v hv=>by
  rw[R.ar7];have e:D.get (O.dd m o la lb).la i=v:=by show D.get la i=v;unfold D.get;rw[ak (by omega),eC,List.getD,hv];rfl
  rw[e];rfl
 have E0:=ae (fun(i:Nat) (hi:i<=512)=>R.ar8 (c:=c) wU hi);have Hcv:=ae (fun(v:Int) (h:v∈la)=>F.ca v h);have Hwr:=ae (fun(i:Nat)=>R.uW (t:=M.aq m o.aP) wU.cw c 0 i);have Px:=wU.za;have ae4:-128<=(M.aq m o.a).zero/\(M.aq m o.a).zero<=127:=Px;have He:=ae (D.Mu (O.dd m o la lb) y x c hk);have ae5:Hid (R.ds (O.dd m o la lb) c la.length=D.Fy (O.dd m o la lb) c):=by
  unfold Hid R.ds D.Fy;show _+D.S _ la.length=_+D.S _ (M.cellsOf (M.aq m o.a)).toNat;rw[show(M.cellsOf (M.aq m o.a)).toNat=la.length by omega]
 have Hq:Hid (D.cell o (O.dd m o la lb) y x c=R.cW (R.iN (R.ds (O.dd m o la lb) c la.length) s.eF s.shift+(M.aq m o.to).zero) o.lo o.hi):=by
  unfold Hid;rw[He.out,ae5.out];unfold D.ug D.jD D.BY;rw[hs];rfl
 have sF:=ae (fun(sv:Int) (W:World) (E3:jB W r gb ga c1 cb g E) (Li:j6 W p off (R.bJ o)) (b1:-2147483648<=sv) (b2:sv<=2147483648)=>Ur r gb ga c1 cb p off g E (R.bJ o) 0 nz sv s.eF s.shift o.lo o.hi (M.aq m o.to) W E3 Li (by rw[hn];rfl) (by rw[hn];rfl) (by rw[hn];rfl) (by rw[hn];rfl) tz ez (by rw[hn];simp) b1 b2 sq.1 sq.2.1 sq.2.2.1 sq.2.2.2 ⟨F.z.z0,F.z.z1⟩ (R.Cf sq.2.2.1));obtain⟨jL,sE⟩:∃v,Hid (D.cell o (O.dd m o la lb) y x c=v):=⟨_,rfl⟩;rw[sE.out] at Hq ⊢;obtain⟨ds,Hds⟩:∃f,Hid (R.ds (O.dd m o la lb) c=f):=⟨_,rfl⟩;rw[Hds.out] at fm E0 Hq UO;obtain⟨wv,UQ⟩:∃f:Nat->Int,Hid (∀i:Nat,D.bN (M.aq m o.aP) (M.aq m o.aP).data c 0 i=f i):=⟨fun i=>D.bN (M.aq m o.aP) (M.aq m o.aP).data c 0 i,fun _=>rfl⟩;have atu:Hid (∀(i:Nat) (W:World),i<la.length->jB W r gb ga c1 cb g E->Calls prog 127 #[.pointer (some ⟨r,0,none⟩),.int .i64 nw,.int .i64 c,.int .i64 0,.int .i64 i] W fun e w'=>e=.returned (.int .i64 (wv i))/\∃n,w'=W.drewN n):=fun i W h1 h2=>by rw[<-UQ.out];exact wJ.out i W h1 h2
 have atv:Hid (∀(i:Nat) v,la[i]?=some v->ds (i+1)=ds i+(v-(M.aq m o.a).zero)*wv i):=fun i v hv=>by rw[<-UQ.out];exact fm.out i v hv
 have atw:Hid (∀i:Nat,-128<=wv i/\wv i<=127):=fun i=>by rw[<-UQ.out];exact Hwr.out i
 have Dbv:=ae dbv;have kz:=M.bP Pv;have atx:(M.aq m o.bC).data.length<=512:=by have:=fz.c1;omega
 clear wJ fm Hwr hI hN o0 o1 o2 o3 i0 i1 i2 hA hR hD F hg ta tw ti tz lG Lg Lh hn sq fs hs wU Px ea ew ei ez He ae5 dA SA SI dI fa fw fz fb dw1 dw2 db1 db2 db3 dz1 dz2 dz3 UN cY k1 hk Pv;obtain⟨lbl,aty⟩:∃n,Hid ((M.aq m o.bC).data.length=n):=⟨_,rfl⟩;rw[aty.out] at HM Pw dh kz atx;obtain⟨pq,KZ⟩:∃n,Hid (g.ts.length=n):=⟨_,rfl⟩;rw[KZ.out] at HM Pw kL AU fq wG;have q0:=HM.out.q0;have q1:=HM.out.q1;have o0:=HM.out.o0;have o1:=HM.out.o1;have i2:=HM.out.i2;have di:=HM.out.di;subst xL;go_enter func91,ntmps91;go_wp2_with fail;go_quiet(fail);have G1:=ae (bE w nq none);have M1:=ae (HM.out.Z G1.out);clear q0 q1 o0 o1 i2 di dbv;generalize w.drewN nq=w1 at *;have q0:=M1.out.q0;have q2:=M1.out.q2;have o1:=M1.out.o1;have i0:=M1.out.i0;go_wp2_with fail;go_quiet(fail);have g2:=bE w1 nq none;have G2:=ae (aC G1.out g2);have M2:=ae (M1.out.Z g2);clear q0 q2 o1 i0 g2 M1 G1;generalize w1.drewN nq=w2 at *;have atz:=ae UO;clear UO;rw[<-atz.out];go_wp2;go_loopw[12,14] (fun sv iv wr=>∃i:Nat,i<=la.length/\sv=.int .i64 (ds i)/\iv=.int .i64 i/\Hid (w2.grownBy wr none)) (fun _ iv _=>la.length-(intOf iv).toNat)
 case atStart=>exact⟨0,bK _,rfl,rfl,fZ _ _⟩
 case round=>
  obtain⟨i,hi,rfl,rfl,Dn⟩:=hrel;have Mi:=ae (M2.out.Z Dn.out);have Lk:=ae (Pw.out wr Mi.out);go_wp2_with fail;refine Lk.out.mono ?_;rintro e w3⟨rfl,n3,h3⟩;have g3:=bE wr n3 none;rw[<-h3] at g3;have Ez:=ae (aC Dn.out g3);have M3:=ae (M2.out.Z Ez.out);have R3:=ae (HR.out.Z (aC G2.out Ez.out));clear g3 h3 Lk Mi Dn;by_cases aJ:i<la.length
  ·obtain⟨v,hv⟩:∃v,la[i]?=some v:=⟨_,aS aJ⟩
   have EI:=ae (atv.out i v hv);have xV:=E0.out i (by omega);have zt:=E0.out (i+1) (by omega);have eM:=atw.out i;have Cn:=Hcv.out v (bU hv);have mm:=O.yS Cn ae4 eM;have se:=ae (atu.out i w3 aJ R3.out);obtain⟨adA,eA,dv⟩:=HSA.out.get i v hv;have Dv:=ae dv;subst eA;obtain⟨zz,Hzz⟩:∃z,Hid ((M.aq m o.a).zero=z):=⟨_,rfl⟩;obtain⟨qv,Dp⟩:∃z,Hid (wv i=z):=⟨_,rfl⟩;obtain⟨sv,m9⟩:∃z,Hid (ds i=z):=⟨_,rfl⟩;rw[Hzz.out] at EI mm ae4;rw[Dp.out] at EI mm se eM;rw[EI.out] at zt;rw[m9.out] at EI xV zt ⊢;have wk1:IntKind.i64.wrap (v-zz)=v-zz:=by rw[cU];omega
   have wk2:IntKind.i64.wrap ((v-zz)*qv)=(v-zz)*qv:=by rw[cU];omega
   have wk3:IntKind.i64.wrap (sv+(v-zz)*qv)=sv+(v-zz)*qv:=by rw[cU];omega
   have o1:=M3.out.o1;have i1:=M3.out.i1;clear hv xV zt eM Cn mm dv;go_wp2_with fail;refine se.out.mono ?_;rintro e w4⟨rfl,n4,h4⟩;have g4:=bE w3 n4 none;rw[<-h4] at g4;have rA:=ae (aC Ez.out g4);have M4:=ae (M3.out.Z g4);clear g4 h4 o1 i1 se;have q0:=M4.out.q0;have q1:=M4.out.q1;have o1:=M4.out.o1;have i0:=M4.out.i0;have da:=M4.out.da;have az:w4.cell? ⟨ga,na*6+4,none⟩=some (.int .i64 zz):=by rw[<-Hzz.out];exact M4.out.az
   have dv:=aG (aC G2.out rA.out) Dv.out;go_wp2_with fail;go_quiet(fail);have Bk:=ae (aC rA.out (bE w4 nq none));clear q0 q1 o1 i0 da az dv;go_wp2;go_roundw
   case rel=>exact⟨i+1,by omega,by rw[EI.out],by go_num,Bk.out⟩
   case measure=>simp[intOf];omega
  ·obtain rfl:i=la.length:=by omega
   have xV:=E0.out la.length (by omega);have HCq:=ae (sF.out (ds la.length) w3 R3.out (UP.out.Z (aC G2.out Ez.out)) (by omega) (by omega));rw[<-Hq.out] at HCq;clear xV;go_wp2_with fail;refine HCq.out.mono ?_;rintro e w4⟨rfl,n4,rfl⟩;go_wp2;go_ret;exact⟨rfl,aC (aC G2.out Ez.out) (bE _ _ _)⟩
structure Py(w:World)(r gb ga c1 p off gi ci gn cn pq:Nat)(na nb m0 s0 m1 s1 za zb:Int)(nA nB:Nat):Prop where
 q0:w.cell? ⟨r,0,none⟩=some (.pointer (some ⟨gb,0,none⟩))
 q2:w.cell? ⟨gb,0,none⟩=some (.slice (some ⟨ga,0,none⟩) pq c1)
 o0:w.cell? ⟨p,off,none⟩=some (.int .i64 4)
 o1:w.cell? ⟨p,off+1,none⟩=some (.slice (some ⟨gi,0,none⟩) 2 ci)
 o3:w.cell? ⟨p,off+3,none⟩=some (.slice (some ⟨gn,0,none⟩) 8 cn)
 i0:w.cell? ⟨gi,0,none⟩=some (.int .i64 na)
 i1:w.cell? ⟨gi,1,none⟩=some (.int .i64 nb)
 n0:w.cell? ⟨gn,0,none⟩=some (.int .i64 m0)
 n1:w.cell? ⟨gn,1,none⟩=some (.int .i64 s0)
 n2:w.cell? ⟨gn,2,none⟩=some (.int .i64 m1)
 n3:w.cell? ⟨gn,3,none⟩=some (.int .i64 s1)
 az:w.cell? ⟨ga,nA*6+4,none⟩=some (.int .i64 za)
 bz:w.cell? ⟨ga,nB*6+4,none⟩=some (.int .i64 zb)
theorem Py.Z{w w':World}{r gb ga c1 p off gi ci gn cn pq:Nat}{na nb m0 s0 m1 s1 za zb:Int}{nA nB:Nat}(h:Py w r gb ga c1 p off gi ci gn cn pq na nb m0 s0 m1 s1 za zb nA nB)(hg:w.grownBy w' none):Py w' r gb ga c1 p off gi ci gn cn pq na nb m0 s0 m1 s1 za zb nA nB:=
 ⟨aG hg h.q0,aG hg h.q2,aG hg h.o0,aG hg h.o1,aG hg h.o3,aG hg h.i0,aG hg h.i1,aG hg h.n0,aG hg h.n1,aG hg h.n2,aG hg h.n3,aG hg h.az,aG hg h.bz⟩
theorem atA(r gb ga c1 cb p off:Nat)(g:R.bX)(E:List (List Int))(m:M.Md)(o:M.Op)(la lb:List Int)(y x c:Int)(w:World)(hR:jB w r gb ga c1 cb g E)(hO:j6 w p off (R.bJ o))(hg:Bv g m)(hD:R.zS m E o la lb)(hk:o.af=4)
  (y0:0<=y) (y1:y<(M.aq m o.to).h) (x0:0<=x) (x1:x<(M.aq m o.to).w) (k0:0<=c) (k1:c<(M.aq m o.to).c):
 Calls prog 91 #[.pointer (some ⟨r,0,none⟩),.pointer (some ⟨p,off,none⟩),.int .i64 y,.int .i64 x,.int .i64 c] w fun e w'=>e=.returned (.int .i64 (D.cell o (O.dd m o la lb) y x c))/\w.grownBy w' none:=by
 have F:=hD.F;have h2:M.dr o.af=true:=by rw[hk];rfl
 obtain⟨na,ea,ta,lG⟩:=hD.a;obtain⟨nb,eb,tb,E2⟩:=hD.b h2;obtain⟨nz,ez,tz⟩:=hD.z;rw[<-hg] at ta tb tz;obtain⟨s,t,u,hs,fs,ft,fu,hn⟩:=R.as9 F.dQ hk;have sq:=R.Ld fs (Le F (by rw[hs];simp));have tq:=R.Ld ft (Le F (by rw[hs];simp));have uq:=R.Ld fu (Le F (by rw[hs];simp));have cY:(R.bJ o).ins=[(na:Int),(nb:Int)]:=by rw[R.Dh h2,ea,eb]
 obtain⟨al1,al2⟩:=(O.vJ F.bT).1 hk;obtain⟨a1,a2,a3⟩:=(O.At _ _).mp al1;obtain⟨b1,b2,b3⟩:=(O.At _ _).mp al2;have fa:=F.a;have fb:=F.b h2;have fz:=F.z;have yt:la.length<=512:=by have:=F.na;have:=fa.mn;omega
 have pQ:lb.length<=512:=by have:=F.nb h2;have:=fb.mn;omega
 have ia:=R.wV (t:=M.aq m o.a) (l:=la) (y:=y) (x:=x) (c:=c) F.na ((O.s8 _ _ _).mpr ⟨y0,by omega,x0,by omega⟩) k0 (by omega);have ib:=R.wV (t:=M.aq m o.b) (l:=lb) (y:=y) (x:=x) (c:=c) (F.nb h2) ((O.s8 _ _ _).mpr ⟨y0,by omega,x0,by omega⟩) k0 (by omega);have tR:=ae (fun(W:World) (h:jB W r gb ga c1 cb g E)=>uZ r gb ga c1 cb g E na (M.aq m o.a) la y x c W h ta lG (by have:=fz.h1;omega) (by have:=fz.w1;omega) (by have:=fz.c1;omega) ⟨by have:=fa.w0;omega,fa.w1⟩ ⟨by have:=fa.c0;omega,fa.c1⟩ ia.1 ia.2 (by omega));have tG:=ae (fun(W:World) (h:jB W r gb ga c1 cb g E)=>uZ r gb ga c1 cb g E nb (M.aq m o.b) lb y x c W h tb E2 (by have:=fz.h1;omega) (by have:=fz.w1;omega) (by have:=fz.c1;omega) ⟨by have:=fb.w0;omega,fb.w1⟩ ⟨by have:=fb.c0;omega,fb.c1⟩ ib.1 ib.2 (by omega));have ra:=R.uW (t:=M.aq m o.a) F.ca y x c;have rb:=R.uW (t:=M.aq m o.b) (F.cb h2) y x c;obtain⟨pv,GK⟩:∃v,Hid (D.bN (M.aq m o.a) la y x c=v):=⟨_,rfl⟩;obtain⟨qv,Dp⟩:∃v,Hid (D.bN (M.aq m o.b) lb y x c=v):=⟨_,rfl⟩;rw[GK.out] at tR ra;rw[Dp.out] at tG rb;obtain⟨za,UR⟩:∃v,Hid ((M.aq m o.a).zero=v):=⟨_,rfl⟩;obtain⟨zb,US⟩:∃v,Hid ((M.aq m o.b).zero=v):=⟨_,rfl⟩;have Px:-128<=za/\za<=127:=by rw[<-UR.out];exact⟨fa.z0,fa.z1⟩
 have hzb:-128<=zb/\zb<=127:=by rw[<-US.out];exact⟨fb.z0,fb.z1⟩
 have jA:=ae (fun W=>TP ((pv-za)*1048576) s.eF s.shift W (by omega) (by omega) sq.1 sq.2.1 sq.2.2.1 sq.2.2.2);have gL:=ae (fun W=>TP ((qv-zb)*1048576) t.eF t.shift W (by omega) (by omega) tq.1 tq.2.1 tq.2.2.1 tq.2.2.2);have rs1:=R.Cf (x:=(pv-za)*1048576) (c:=s) sq.2.2.1;have rs2:=R.Cf (x:=(qv-zb)*1048576) (c:=t) tq.2.2.1;have He:Hid (D.cell o (O.dd m o la lb) y x c=R.cW (R.iN (R.held (R.iN ((pv-za)*1048576) s.eF s.shift+R.iN ((qv-zb)*1048576) t.eF t.shift)) u.eF u.shift+(M.aq m o.to).zero) o.lo o.hi):=by
  unfold Hid;rw[D.Mv _ _ _ _ hk,<-GK.out,<-Dp.out,<-UR.out,<-US.out];unfold D.ug D.Ap D.jD D.BY;rw[hs];rfl
 obtain⟨sv,m9⟩:∃v,Hid (R.iN ((pv-za)*1048576) s.eF s.shift=v):=⟨_,rfl⟩;obtain⟨tv,UD⟩:∃v,Hid (R.iN ((qv-zb)*1048576) t.eF t.shift=v):=⟨_,rfl⟩;rw[m9.out] at jA rs1 He;rw[UD.out] at gL rs2 He;have rh:=R.BX (sv+tv);have HCh:=ae (fun W=>OS (sv+tv) W);obtain⟨hv,Hhv⟩:∃v,Hid (R.held (sv+tv)=v):=⟨_,rfl⟩;rw[Hhv.out] at rh HCh He;have sF:=ae (fun(W:World) (E3:jB W r gb ga c1 cb g E) (Li:j6 W p off (R.bJ o))=>Ur r gb ga c1 cb p off g E (R.bJ o) 4 nz hv u.eF u.shift o.lo o.hi (M.aq m o.to) W E3 Li (by rw[hn];rfl) (by rw[hn];rfl) (by rw[hn];rfl) (by rw[hn];rfl) tz ez (by rw[hn];simp) (by omega) (by omega) uq.1 uq.2.1 uq.2.2.1 uq.2.2.2 ⟨F.z.z0,F.z.z1⟩ (R.Cf uq.2.2.1));rw[<-He.out] at sF;obtain⟨jL,sE⟩:∃v,Hid (D.cell o (O.dd m o la lb) y x c=v):=⟨_,rfl⟩;rw[sE.out] at sF ⊢;have UT:=ae (fun W=>C0 20 W (by decide) (by decide));have HO:=ae hO;have HR:=ae hR;obtain⟨ai,ci,an,cn,o0,o1,o2,o3,hI,hN⟩:=hO;rw[hn] at o3 hN;rw[cY] at o1 hI;obtain⟨gi,e1,-,-,i0⟩:=hI.get 0 (na:Int) rfl;subst e1;obtain⟨_,e1,-,-,i1⟩:=hI.get 1 (nb:Int) rfl;injection e1 with e1;injection e1 with e1 _ _;subst e1;obtain⟨gn,e1,-,-,n0⟩:=hN.get 0 s.eF rfl;subst e1;obtain⟨_,e1,-,-,n1⟩:=hN.get 1 s.shift rfl;injection e1 with e1;injection e1 with e1 _ _;subst e1;obtain⟨_,e1,-,-,n2⟩:=hN.get 2 t.eF rfl;injection e1 with e1;injection e1 with e1 _ _;subst e1;obtain⟨_,e1,-,-,n3⟩:=hN.get 3 t.shift rfl;injection e1 with e1;injection e1 with e1 _ _;subst e1;have HM:Hid (Py w r gb ga c1 p off gi ci gn cn g.ts.length na nb s.eF s.shift t.eF t.shift za zb na nb):=⟨hR.p,hR.t.q,by rw[<-hk];exact o0,o1,o3,i0,i1,n0,n1,n2,n3,by rw[<-UR.out];exact(hR.t.t na _ ta).z,by rw[<-US.out];exact(hR.t.t nb _ tb).z⟩;have kL:=M.bP ta;have dh:=M.bP tb;have wG:=hR.pd;obtain⟨pq,KZ⟩:∃n,Hid (g.ts.length=n):=⟨_,rfl⟩;rw[KZ.out] at HM kL dh wG
 have w1:IntKind.i64.wrap (pv-za)=pv-za:=by rw[cU];omega
 have w2:IntKind.i64.wrap ((pv-za)*1048576)=(pv-za)*1048576:=by rw[cU];omega
 have w3:IntKind.i64.wrap (qv-zb)=qv-zb:=by rw[cU];omega
 have w4:IntKind.i64.wrap ((qv-zb)*1048576)=(qv-zb)*1048576:=by rw[cU];omega
 have w5:IntKind.i64.wrap (sv+tv)=sv+tv:=by rw[cU];omega
 clear hI hN o0 o1 o2 o3 i0 i1 n0 n1 n2 n3 hR hD F hg ta tb tz lG E2 hn sq tq uq fs ft fu hs ea eb ez fa fb fz a1 a2 a3 b1 b2 b3 al1 al2 cY k0 k1 y0 y1 x0 x1 hk ia ib ra rb Px hzb rs1 rs2 rh yt pQ He h2;have o0:=HM.out.o0;have o1:=HM.out.o1;have i0:=HM.out.i0;go_enter func91,ntmps91;go_wp2_with fail;refine(tR.out w HR.out).mono ?_;rintro e v1⟨rfl,d1,Cn⟩;have G1:=bE w d1 none;rw[<-Cn] at G1;have M1:=ae (HM.out.Z G1);have R1:=ae (HR.out.Z G1);have CK:=ae G1;clear o0 o1 i0 G1 Cn tR;have o1:=M1.out.o1;have i1:=M1.out.i1;go_wp2_with fail;refine(tG.out v1 R1.out).mono ?_;rintro e v2⟨rfl,d2,EV⟩;have G2:=bE v1 d2 none;rw[<-EV] at G2;have M2:=ae (M1.out.Z G2);have wY:=ae (aC CK.out G2);clear o1 i1 G2 EV tG M1 R1 CK;go_wp2_with fail;refine(UT.out v2).mono ?_;rintro e v3⟨rfl,hv3⟩;subst hv3;have q0:=M2.out.q0;have q2:=M2.out.q2;have o1:=M2.out.o1;have o3:=M2.out.o3;have i0:=M2.out.i0;have n0:=M2.out.n0;have n1:=M2.out.n1;have az:=M2.out.az;have e20:(2:Int) ^ (20:Int).toNat=1048576:=by decide
 go_wp2_with fail;go_quiet(exact mU (jA.out _));have G4:=bE v3 nq none;have M4:=ae (M2.out.Z G4);have rA:=ae (aC wY.out G4);clear q0 q2 o1 o3 i0 n0 n1 az G4 M2 wY jA;generalize v3.drewN nq=v4 at *;have q0:=M4.out.q0;have q2:=M4.out.q2;have o1:=M4.out.o1;have o3:=M4.out.o3;have i1:=M4.out.i1;have n2:=M4.out.n2;have n3:=M4.out.n3;have bz:=M4.out.bz;go_wp2_with fail;go_quiet(exact mU (gL.out _));have Bk:=ae (aC rA.out (bE v4 nq none));clear q0 q2 o1 o3 i1 n2 n3 bz M4 rA gL;generalize v4.drewN nq=v5 at *;go_wp2_with fail;refine(HCh.out v5).mono ?_;rintro e v6⟨rfl,hv6⟩;subst hv6;go_wp2_with fail;refine(sF.out _ (HR.out.Z Bk.out) (HO.out.Z Bk.out)).mono ?_;rintro e v7⟨rfl,d7,rfl⟩;go_wp2;go_ret;exact⟨rfl,aC Bk.out (bE _ _ _)⟩
theorem atF(r gb ga c1 cb p off:Nat)(g:R.bX)(E:List (List Int))(m:M.Md)(o:M.Op)(la lb:List Int)(y x c:Int)(w:World)(hR:jB w r gb ga c1 cb g E)(hO:j6 w p off (R.bJ o))(hg:Bv g m)(hD:R.zS m E o la lb)
  (y0:0<=y) (y1:y<(M.aq m o.to).h) (x0:0<=x) (x1:x<(M.aq m o.to).w) (k0:0<=c) (k1:c<(M.aq m o.to).c):
 Calls prog 91 #[.pointer (some ⟨r,0,none⟩),.pointer (some ⟨p,off,none⟩),.int .i64 y,.int .i64 x,.int .i64 c] w fun e w'=>e=.returned (.int .i64 (D.cell o (O.dd m o la lb) y x c))/\w.grownBy w' none:=by
 have h0:=hD.F.dQ.k0;have h1:=hD.F.dQ.k1;rcases(show o.af=1\/o.af=2\/o.af=3\/o.af=4\/o.af=5\/o.af=6\/o.af=7\/o.af=8\/o.af=9\/o.af=10 by omega) with k|k|k|k|k|k|k|k|k|k
 ·exact aeS r gb ga c1 cb p off g E m o la lb y x c w hR hO hg hD (.inl k) y0 y1 x0 x1 k0 k1
 ·exact aeS r gb ga c1 cb p off g E m o la lb y x c w hR hO hg hD (.inr k) y0 y1 x0 x1 k0 k1
 ·exact atl r gb ga c1 cb p off g E m o la lb y x c w hR hO hg hD k k0 k1
 ·exact atA r gb ga c1 cb p off g E m o la lb y x c w hR hO hg hD k y0 y1 x0 x1 k0 k1
 ·exact aeU r gb ga c1 cb p off g E m o la lb y x c w hR hO hg hD (.inl k) y0 y1 x0 x1 k0 k1
 ·exact aeU r gb ga c1 cb p off g E m o la lb y x c w hR hO hg hD (.inr k) y0 y1 x0 x1 k0 k1
 ·exact ate r gb ga c1 cb p off g E m o la lb y x c w hR hO hg hD k y0 y1 x0 x1 k0 k1
 ·exact atf r gb ga c1 cb p off g E m o la lb y x c w hR hO hg hD k y0 y1 x0 x1 k0 k1
 ·exact atj r gb ga c1 cb p off g E m o la lb y x c w hR hO hg hD k y0 y1 x0 x1 k0 k1
 ·exact ath r gb ga c1 cb p off g E m o la lb y x c w hR hO hg hD k y0 y1 x0 x1 k0 k1
namespace R
theorem Ll{E:List (List Int)}{n:Int}{len:Nat}(h0:0<=n)(h1:n<len)(hl:E.length=len):E[n.toNat]?=some (D.bW E n):=by
 unfold D.bW;rw[ak (by omega),List.getD,aS (by omega)];rfl
theorem atG{m:M.Md}(h1:O.iP m){C E:List (List Int)}{i:Nat}(h:O.uu m C E i){o:M.Op}(ho:m.ag[i]?=some o):
  zS m E o (D.bW C o.a) (D.bW C o.b)/\D.dM m E o=D.oT (M.aq m o.to) (D.cell o (O.dd m o (D.bW C o.a) (D.bW C o.b))):=by
 have F:=h.Ce h1 ho;have ta:=h1.a i o ho;obtain⟨ma,-,-,ea⟩:=h.there ta;have ga:=O.kP ta.1 ta.2.1;obtain⟨z0,z1,-⟩:=O.mo (h1.to i o ho);have fk:=h1.dQ.ts _ ga.2;refine⟨⟨F,⟨o.a.toNat,by have:=ta.1;omega,ga.1,by rw[ea];exact Ll ta.1 ta.2.1 h.FE⟩,fun hb=>?_,fun hw=>?_,⟨o.to.toNat,by omega,(O.kP z0 z1).1⟩,⟨fk.k0,fk.k1⟩⟩,?_⟩
 ·have tb:=h1.b i o ho hb
  obtain⟨-,-,-,eb⟩:=h.there tb;exact⟨o.b.toNat,by have:=tb.1;omega,(O.kP tb.1 tb.2.1).1,by rw[eb];exact Ll tb.1 tb.2.1 h.FE⟩
 ·obtain⟨w1,w2⟩:=h1.ws i o ho hw
  obtain⟨a0,a1,a2⟩:=O.mo w1;obtain⟨b0,b1,b2⟩:=O.mo w2;have g1:=(O.kP a0 a1).1;have g2:=(O.kP b0 b1).1;refine⟨o.aP.toNat,o.bC.toNat,by omega,by omega,g1,g2,?_,?_⟩
  ·rw[<-h.data _ _ g1 (.inl a2),Ll a0 a1 h.FE];unfold D.bW;rw[ak (by omega)]
  ·rw[<-h.data _ _ g2 (.inr b2),Ll b0 b1 h.FE];unfold D.bW;rw[ak (by omega)]
 ·rw[<-h.dM h1 ho,O.Q6 F]
def vc(m:M.Md)(ins:List (List Int))(k:Nat):List (List Int):=(m.ag.take k).foldl (D.step m) (D.start m.au ins)
theorem afd{m:M.Md}{ins:List (List Int)}{k:Nat}{o:M.Op}(h:m.ag[k]?=some o):vc m ins (k+1)=(vc m ins k).set o.to.toNat (D.dM m (vc m ins k) o):=by
 unfold vc;rw[H.kd h,List.foldl_append];rfl
theorem afe(m:M.Md)(ins:List (List Int)):vc m ins 0=D.start m.au ins:=by unfold vc;simp
theorem aff(m:M.Md)(ins:List (List Int)):vc m ins m.ag.length=D.fM m ins:=by unfold vc D.fM;rw[jm]
theorem UU{m:M.Md}(ins:List (List Int)):∀k,k<=m.ag.length->(vc m ins k).length=m.au.length
 |0,_=>by rw[afe,O.Q7]
 |k+1,hk=>by rw[afd (aS (by omega)),kK];exact UU ins k (by omega)
theorem atH{m:M.Md}(h1:O.iP m){ins:List (List Int)}(hi:D.jP m ins=true)(k:Nat)(hk:k<=m.ag.length):∃C,O.uu m C (vc m ins k) k:=⟨_,O.IS h1 hi k hk⟩
def Bw(m:M.Md)(ins:List (List Int))(k:Nat):List (List Int):=(m.aK.take k).map (D.bW (D.fM m ins))
theorem atI{m:M.Md}{ins:List (List Int)}{k:Nat}{n:Int}(h:m.aK[k]?=some n):Bw m ins (k+1)=Bw m ins k++[D.bW (D.fM m ins) n]:=by
 unfold Bw;rw[H.kd h,lK];rfl
theorem atJ(m:M.Md)(ins:List (List Int)):Bw m ins m.aK.length=D.run m ins:=by unfold Bw D.run;rw[jm]
theorem atK{m:M.Md}(ins:List (List Int)){k:Nat}(h:k<=m.aK.length):(Bw m ins k).length=k:=by unfold Bw;simp;omega
theorem atL{m:M.Md}(h1:O.iP m){n:Int}(h:n∈m.aK):0<=n/\n<m.au.length:=⟨(h1.aK n h).1,(h1.aK n h).2.1⟩
end R
end Go.Proofs.YtcnhfffgbamonaaGreat
