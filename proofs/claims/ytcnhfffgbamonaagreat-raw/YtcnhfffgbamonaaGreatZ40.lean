import Derived.Test.YtcnhfffgbamonaaGreatZ39
import Derived.Test.YtcnhfffgbamonaaGreatZ38
set_option maxRecDepth 100000
set_option maxHeartbeats 6400000
namespace Go.Proofs.YtcnhfffgbamonaaGreat
open Go.Proofs.Tryz
open RowKit
theorem au3(b p off ga c1:Nat)(g:R.bX)(o:R.Op)(w:World)(hT:tQ w b ga c1 g)(hO:j6 w p off o)(x z:Nat)(a tz:M.Tn)(hi:o.ins=[(x:Int)])(ho:o.out=(z:Int))(ha:g.ts[x]?=some a)(hz:g.ts[z]?=some tz)(_hn:g.ts.length<=255)(hk:o.af=7):
 Calls prog 72 #[.pointer (some ⟨b,0,none⟩),.pointer (some ⟨p,off,none⟩)] w fun e w'=>e=.returned (.bool (R.iV tz a.h a.w a.c))/\w.grownBy w' none:=by
 obtain⟨ai,ci,an,cn,k0,k1,k2,k3,hI,hN⟩:=hO;rw[hi] at k1 hI;rw[ho] at k2;obtain⟨gi,ei,-,-,x0⟩:=hI.get 0 x rfl;subst ei;have q:=hT.q;obtain⟨-,A1,A2,A3,-⟩:=hT.t x a ha;have lx:(x:Int)<(g.ts.length:Int):=by
  rcases cE x g.ts.length with h' |h'
  ·omega
  ·rw[db h'] at ha;exact aN ha (by simp)
 obtain⟨-,Z1,Z2,Z3,-⟩:=hT.t z tz hz;have lz:(z:Int)<(g.ts.length:Int):=by
  rcases cE z g.ts.length with h' |h'
  ·omega
  ·rw[db h'] at hz;exact aN hz (by simp)
 have HC:=ae (fun(W:World) (hW:∀a,W.cell? a=w.cell? a)=>yl ga (z*6) tz (a.h) (a.w) (a.c) W (by rw[hW];exact Z1) (by rw[hW];exact Z2) (by rw[hW];exact Z3));rw[hk] at k0;generalize g.ts.length=nt at *;clear hT hI hN hi ho ha hk hz k3;generalize R.iV tz a.h a.w a.c=jL at *;go_enter func72,ntmps72;go_wp2;go_quiet(fail);go_wp2;go_quiet(fail);go_wp2;go_quiet((refine yp (HC.out _ ?_);exact fun _=>rfl));go_wp2;go_ret;exact⟨rfl,⟨rfl,rfl,rfl,bj _,fun _ _ _=>rfl⟩⟩
theorem au4(b p off ga c1:Nat)(g:R.bX)(o:R.Op)(w:World)(hT:tQ w b ga c1 g)(hO:j6 w p off o)(x y z:Nat)(a bb tz:M.Tn)(hi:o.ins=[(x:Int),(y:Int)])(ho:o.out=(z:Int))(ha:g.ts[x]?=some a)(eD:g.ts[y]?=some bb)(hz:g.ts[z]?=some tz)(_hn:g.ts.length<=255)(hk:o.af=4):
 Calls prog 72 #[.pointer (some ⟨b,0,none⟩),.pointer (some ⟨p,off,none⟩)] w fun e w'=>e=.returned (.bool (R.iV bb a.h a.w a.c&&R.iV tz a.h a.w a.c))/\w.grownBy w' none:=by
 obtain⟨ai,ci,an,cn,k0,k1,k2,k3,hI,hN⟩:=hO;rw[hi] at k1 hI;rw[ho] at k2;obtain⟨gi,ei,-,-,x0⟩:=hI.get 0 x rfl;subst ei;obtain⟨_,ei,-,-,x1⟩:=hI.get 1 y rfl;injection ei with ei;injection ei with ei _ _;subst ei;have q:=hT.q;obtain⟨-,A1,A2,A3,-⟩:=hT.t x a ha;have lx:(x:Int)<(g.ts.length:Int):=by
  rcases cE x g.ts.length with h' |h'
  ·omega
  ·rw[db h'] at ha;exact aN ha (by simp)
 obtain⟨-,B1,B2,B3,-⟩:=hT.t y bb eD;have ly:(y:Int)<(g.ts.length:Int):=by
  rcases cE y g.ts.length with h' |h'
  ·omega
  ·rw[db h'] at eD;exact aN eD (by simp)
 obtain⟨-,Z1,Z2,Z3,-⟩:=hT.t z tz hz;have lz:(z:Int)<(g.ts.length:Int):=by
  rcases cE z g.ts.length with h' |h'
  ·omega
  ·rw[db h'] at hz;exact aN hz (by simp)
 have HB:=ae (fun(W:World) (hW:∀a,W.cell? a=w.cell? a)=>yl ga (y*6) bb (a.h) (a.w) (a.c) W (by rw[hW];exact B1) (by rw[hW];exact B2) (by rw[hW];exact B3));have HC:=ae (fun(W:World) (hW:∀a,W.cell? a=w.cell? a)=>yl ga (z*6) tz (a.h) (a.w) (a.c) W (by rw[hW];exact Z1) (by rw[hW];exact Z2) (by rw[hW];exact Z3));rw[hk] at k0;generalize g.ts.length=nt at *;clear hT hI hN hi ho ha eD hk hz k3;generalize R.iV tz a.h a.w a.c=jL at *;generalize R.iV bb a.h a.w a.c=au5 at *;go_enter func72,ntmps72;go_wp2;go_quiet(fail);go_wp2;go_quiet(fail);go_wp2;go_quiet(fail);go_wp2;go_quiet((refine yp (HB.out _ ?_);exact fun _=>rfl));go_wp2;go_quiet((refine yp (HC.out _ ?_);exact fun _=>rfl))
 cases au5
 ·go_wp2
  go_ret;exact⟨rfl,⟨rfl,rfl,rfl,bj _,fun _ _ _=>rfl⟩⟩
 ·go_wp2
  go_ret;exact⟨bB (by simp),⟨rfl,rfl,rfl,bj _,fun _ _ _=>rfl⟩⟩
theorem au6(b p off ga c1:Nat)(g:R.bX)(o:R.Op)(w:World)(hT:tQ w b ga c1 g)(hO:j6 w p off o)(x z:Nat)(a tz:M.Tn)(hi:o.ins=[(x:Int)])(ho:o.out=(z:Int))(ha:g.ts[x]?=some a)(hz:g.ts[z]?=some tz)(_hn:g.ts.length<=255)(hk:o.af=9)(wa:dZ a)(wz:dZ tz):
 Calls prog 72 #[.pointer (some ⟨b,0,none⟩),.pointer (some ⟨p,off,none⟩)] w fun e w'=>e=.returned (.bool (M.cellsOf a==M.cellsOf tz))/\w.grownBy w' none:=by
 obtain⟨ai,ci,an,cn,k0,k1,k2,k3,hI,hN⟩:=hO;rw[hi] at k1 hI;rw[ho] at k2;obtain⟨gi,ei,-,-,x0⟩:=hI.get 0 x rfl;subst ei;have q:=hT.q;obtain⟨-,A1,A2,A3,-⟩:=hT.t x a ha;have lx:(x:Int)<(g.ts.length:Int):=by
  rcases cE x g.ts.length with h' |h'
  ·omega
  ·rw[db h'] at ha;exact aN ha (by simp)
 obtain⟨-,Z1,Z2,Z3,-⟩:=hT.t z tz hz;have lz:(z:Int)<(g.ts.length:Int):=by
  rcases cE z g.ts.length with h' |h'
  ·omega
  ·rw[db h'] at hz;exact aN hz (by simp)
 have HA:=ae (fun(W:World) (hW:∀a,W.cell? a=w.cell? a)=>GD ga (x*6) a W wa (by rw[hW];exact A1) (by rw[hW];exact A2) (by rw[hW];exact A3));have HZ:=ae (fun(W:World) (hW:∀a,W.cell? a=w.cell? a)=>GD ga (z*6) tz W wz (by rw[hW];exact Z1) (by rw[hW];exact Z2) (by rw[hW];exact Z3));rw[hk] at k0;generalize g.ts.length=nt at *;clear hT hI hN hi ho ha hk hz k3;generalize M.cellsOf a=na at *;generalize M.cellsOf tz=nz at *;go_enter func72,ntmps72;go_wp2;go_quiet(fail);go_wp2;go_quiet(fail);go_wp2_with fail;refine Calls.mono (HA.out _ ?hh) ?_
 case hh=>exact fun _=>rfl
 rintro e W1⟨rfl,m1,rfl⟩;go_wp2_with fail;refine Calls.mono (HZ.out _ ?hh) ?_
 case hh=>exact fun _=>rfl
 rintro e W2⟨rfl,m2,rfl⟩;go_wp2;go_ret;exact⟨rfl,⟨rfl,rfl,rfl,bj _,fun _ _ _=>rfl⟩⟩
theorem au7(b p off ga c1:Nat)(g:R.bX)(o:R.Op)(w:World)(hT:tQ w b ga c1 g)(hO:j6 w p off o)(x z:Nat)(a tz:M.Tn)(n0 n1 n2 n3:Int)(hi:o.ins=[(x:Int)])(ho:o.out=(z:Int))(ha:g.ts[x]?=some a)(hz:g.ts[z]?=some tz)(_hn:g.ts.length<=255)(p8:o.cO=[n0,n1,n2,n3])(hk:o.af=8)(wa:dZ a)(b0:0<=n0/\n0<=255)(b1:0<=n1/\n1<=255)(b2:0<=n2/\n2<=255)(b3:0<=n3/\n3<=255):
 Calls prog 72 #[.pointer (some ⟨b,0,none⟩),.pointer (some ⟨p,off,none⟩)] w fun e w'=>e=.returned (.bool (R.iV tz (a.h+n0+n1) (a.w+n2+n3) a.c))/\w.grownBy w' none:=by
 obtain⟨ai,ci,an,cn,k0,k1,k2,k3,hI,hN⟩:=hO;rw[hi] at k1 hI;rw[ho] at k2;rw[p8] at k3 hN;obtain⟨gi,ei,-,-,x0⟩:=hI.get 0 x rfl;subst ei;obtain⟨gn,en,-,-,y0⟩:=hN.get 0 n0 rfl;subst en;obtain⟨_,en,-,-,y1⟩:=hN.get 1 n1 rfl;injection en with en;injection en with en _ _;subst en;obtain⟨_,en,-,-,y2⟩:=hN.get 2 n2 rfl;injection en with en;injection en with en _ _;subst en;obtain⟨_,en,-,-,y3⟩:=hN.get 3 n3 rfl;injection en with en;injection en with en _ _;subst en;have q:=hT.q;obtain⟨-,A1,A2,A3,-⟩:=hT.t x a ha;have lx:(x:Int)<(g.ts.length:Int):=by
  rcases cE x g.ts.length with h' |h'
  ·omega
  ·rw[db h'] at ha;exact aN ha (by simp)
 obtain⟨-,Z1,Z2,Z3,-⟩:=hT.t z tz hz;have lz:(z:Int)<(g.ts.length:Int):=by
  rcases cE z g.ts.length with h' |h'
  ·omega
  ·rw[db h'] at hz;exact aN hz (by simp)
 have HC:=ae (fun(W:World) (hW:∀a,W.cell? a=w.cell? a)=>yl ga (z*6) tz (a.h+n0+n1) (a.w+n2+n3) (a.c) W (by rw[hW];exact Z1) (by rw[hW];exact Z2) (by rw[hW];exact Z3));have ah0:=wa.h0;have ah1:=wa.h1;have aw0:=wa.w0;have aw1:=wa.w1;have e1:IntKind.i64.wrap (a.h+n0)=a.h+n0:=by rw[cU];omega
 have e2:IntKind.i64.wrap (a.h+n0+n1)=a.h+n0+n1:=by rw[cU];omega
 have e3:IntKind.i64.wrap (a.w+n2)=a.w+n2:=by rw[cU];omega
 have e4:IntKind.i64.wrap (a.w+n2+n3)=a.w+n2+n3:=by rw[cU];omega
 clear ah0 ah1 aw0 aw1 wa b0 b1 b2 b3;rw[hk] at k0;generalize g.ts.length=nt at *;clear hT hI hN hi ho ha hk hz p8;generalize R.iV tz (a.h+n0+n1) (a.w+n2+n3) a.c=jL at *;go_enter func72,ntmps72;go_wp2;go_quiet(fail);go_wp2;go_quiet(fail);go_wp2;go_quiet((refine yp (HC.out _ ?_);exact fun _=>rfl));go_wp2;go_ret;exact⟨rfl,⟨rfl,rfl,rfl,bj _,fun _ _ _=>rfl⟩⟩
theorem avc(b p off ga c1:Nat)(g:R.bX)(o:R.Op)(w:World)(hT:tQ w b ga c1 g)(hO:j6 w p off o)(x y z:Nat)(a bb tz:M.Tn)(hi:o.ins=[(x:Int),(y:Int)])(ho:o.out=(z:Int))(ha:g.ts[x]?=some a)(eD:g.ts[y]?=some bb)(hz:g.ts[z]?=some tz)(_hn:g.ts.length<=255)(hk:o.af=10)(wa:dZ a)(wb:dZ bb):
 Calls prog 72 #[.pointer (some ⟨b,0,none⟩),.pointer (some ⟨p,off,none⟩)] w fun e w'=>e=.returned (.bool ((a.h==bb.h&&a.w==bb.w)&&R.iV tz a.h a.w (a.c+bb.c)))/\w.grownBy w' none:=by
 obtain⟨ai,ci,an,cn,k0,k1,k2,k3,hI,hN⟩:=hO;rw[hi] at k1 hI;rw[ho] at k2;obtain⟨gi,ei,-,-,x0⟩:=hI.get 0 x rfl;subst ei;obtain⟨_,ei,-,-,x1⟩:=hI.get 1 y rfl;injection ei with ei;injection ei with ei _ _;subst ei;have q:=hT.q;obtain⟨-,A1,A2,A3,-⟩:=hT.t x a ha;have lx:(x:Int)<(g.ts.length:Int):=by
  rcases cE x g.ts.length with h' |h'
  ·omega
  ·rw[db h'] at ha;exact aN ha (by simp)
 obtain⟨-,B1,B2,B3,-⟩:=hT.t y bb eD;have ly:(y:Int)<(g.ts.length:Int):=by
  rcases cE y g.ts.length with h' |h'
  ·omega
  ·rw[db h'] at eD;exact aN eD (by simp)
 obtain⟨-,Z1,Z2,Z3,-⟩:=hT.t z tz hz;have lz:(z:Int)<(g.ts.length:Int):=by
  rcases cE z g.ts.length with h' |h'
  ·omega
  ·rw[db h'] at hz;exact aN hz (by simp)
 have HC:=ae (fun(W:World) (hW:∀a,W.cell? a=w.cell? a)=>yl ga (z*6) tz (a.h) (a.w) (a.c+bb.c) W (by rw[hW];exact Z1) (by rw[hW];exact Z2) (by rw[hW];exact Z3));have e1:IntKind.i64.wrap (a.c+bb.c)=a.c+bb.c:=by rw[cU];have:=wa.c0;have:=wa.c1;have:=wb.c0;have:=wb.c1;omega
 clear wa wb;rw[hk] at k0;generalize g.ts.length=nt at *;clear hT hI hN hi ho ha eD hk hz k3;generalize R.iV tz a.h a.w (a.c+bb.c)=jL at *;generalize a.h=ah at *;generalize bb.h=bh at *;generalize a.w=aw at *;generalize bb.w=bw at *
 cases r1:(ah==bh)
 ·go_enter func72,ntmps72
  go_wp2;go_quiet(fail);go_wp2;go_quiet(fail);go_wp2;go_quiet(fail);go_wp2;go_quiet(fail);go_wp2;go_ret;exact⟨bB (by simp),⟨rfl,rfl,rfl,bj _,fun _ _ _=>rfl⟩⟩
 ·cases r2:(aw==bw)
  ·go_enter func72,ntmps72
   go_wp2;go_quiet(fail);go_wp2;go_quiet(fail);go_wp2;go_quiet(fail);go_wp2;go_quiet(fail);go_wp2;go_ret;exact⟨bB (by simp),⟨rfl,rfl,rfl,bj _,fun _ _ _=>rfl⟩⟩
  ·go_enter func72,ntmps72
   go_wp2;go_quiet(fail);go_wp2;go_quiet(fail);go_wp2;go_quiet(fail);go_wp2;go_quiet((refine yp (HC.out _ ?_);exact fun _=>rfl));go_wp2;go_ret;exact⟨bB (by simp),⟨rfl,rfl,rfl,bj _,fun _ _ _=>rfl⟩⟩
theorem agA(b p off ga c1:Nat)(g:R.bX)(o:R.Op)(w:World)(hT:tQ w b ga c1 g)(hO:j6 w p off o)(x z:Nat)(a tz:M.Tn)(n0 n1 n2 n3:Int)(hi:o.ins=[(x:Int)])(ho:o.out=(z:Int))(ha:g.ts[x]?=some a)(hz:g.ts[z]?=some tz)(_hn:g.ts.length<=255)(p8:o.cO=[n0,n1,n2,n3])(hk:o.af=5\/o.af=6)(wa:dZ a)(b0:0<=n0/\n0<=255)(b1:0<=n1/\n1<=255):
 Calls prog 72 #[.pointer (some ⟨b,0,none⟩),.pointer (some ⟨p,off,none⟩)] w fun e w'=>e=.returned (.bool (if n0=0\/n1=0 then false else R.iV tz (R.gG a.h n0 n1 false) (R.gG a.w n0 n1 false) a.c))/\w.grownBy w' none:=by
 obtain⟨ai,ci,an,cn,k0,k1,k2,k3,hI,hN⟩:=hO;rw[hi] at k1 hI;rw[ho] at k2;rw[p8] at k3 hN;obtain⟨gi,ei,-,-,x0⟩:=hI.get 0 x rfl;subst ei;obtain⟨gn,en,-,-,y0⟩:=hN.get 0 n0 rfl;subst en;obtain⟨_,en,-,-,y1⟩:=hN.get 1 n1 rfl;injection en with en;injection en with en _ _;subst en;obtain⟨_,en,-,-,y2⟩:=hN.get 2 n2 rfl;injection en with en;injection en with en _ _;subst en;obtain⟨_,en,-,-,y3⟩:=hN.get 3 n3 rfl;injection en with en;injection en with en _ _;subst en;have q:=hT.q;obtain⟨-,A1,A2,A3,-⟩:=hT.t x a ha;have lx:(x:Int)<(g.ts.length:Int):=by
  rcases cE x g.ts.length with h' |h'
  ·omega
  ·rw[db h'] at ha;exact aN ha (by simp)
 obtain⟨-,Z1,Z2,Z3,-⟩:=hT.t z tz hz;have lz:(z:Int)<(g.ts.length:Int):=by
  rcases cE z g.ts.length with h' |h'
  ·omega
  ·rw[db h'] at hz;exact aN hz (by simp)
 by_cases fB:n0=0\/n1=0
 ·rw[ay fB]
  have pY:(n0==0)=true\/((n0==0)=false/\(n1==0)=true):=by
   by_cases h0:n0=0
   ·exact .inl (by simp[h0])
   ·exact .inr ⟨by simp[h0],by rcases fB with h|h;exact aN h h0;simp[h]⟩
  clear fB;generalize g.ts.length=nt at *;clear hT hI hN hi ho ha hz p8;rcases hk with hk|hk<;>rw[hk] at k0<;>clear hk<;>rcases pY with r1|⟨r1,r2⟩
  all_goals
   go_enter func72,ntmps72;go_wp2;go_quiet(fail);go_wp2;go_quiet(fail);go_wp2;go_ret;exact⟨rfl,⟨rfl,rfl,rfl,bj _,fun _ _ _=>rfl⟩⟩
 ·rw[ak fB]
  have r1:(n0==0)=false:=by simp;omega
  have r2:(n1==0)=false:=by simp;omega
  have Dy:=ae (fun W=>ER a.h n0 n1 false W wa.h0 (by have:=wa.h1;omega) (by omega) (by omega) (by omega) (by omega));have mC:=ae (fun W=>ER a.w n0 n1 false W wa.w0 (by have:=wa.w1;omega) (by omega) (by omega) (by omega) (by omega));clear fB wa b0 b1;have HC:=ae (fun(W:World) (hW:∀a,W.cell? a=w.cell? a)=>yl ga (z*6) tz (R.gG a.h n0 n1 false) (R.gG a.w n0 n1 false) (a.c) W (by rw[hW];exact Z1) (by rw[hW];exact Z2) (by rw[hW];exact Z3));generalize g.ts.length=nt at *;clear hT hI hN hi ho ha hz p8;generalize R.iV tz (R.gG a.h n0 n1 false) (R.gG a.w n0 n1 false) a.c=jL at *;generalize R.gG a.h n0 n1 false=ph at *;generalize R.gG a.w n0 n1 false=pw at *;rcases hk with hk|hk<;>rw[hk] at k0<;>clear hk
  all_goals
   go_enter func72,ntmps72;go_wp2;go_quiet(fail);go_wp2;go_quiet(fail);go_wp2;go_quiet(exact yp (Dy.out _));go_wp2;go_quiet(exact yp (mC.out _));go_wp2_with fail;refine Calls.mono (HC.out _ ?hh) ?_
   case hh=>exact fun _=>rfl
   rintro e W1⟨rfl,rfl⟩;go_wp2;go_ret;exact⟨rfl,⟨rfl,rfl,rfl,bj _,fun _ _ _=>rfl⟩⟩
theorem avd(b p off ga c1:Nat)(g:R.bX)(o:R.Op)(w:World)(hT:tQ w b ga c1 g)(hO:j6 w p off o)(x y u z:Nat)(a bb v tz:M.Tn)(hi:o.ins=[(x:Int),(y:Int),(u:Int)])(ho:o.out=(z:Int))(ha:g.ts[x]?=some a)(eD:g.ts[y]?=some bb)(hv:g.ts[u]?=some v)(hz:g.ts[z]?=some tz)(_hn:g.ts.length<=255)(hk:o.af=3)(wa:dZ a):
 Calls prog 72 #[.pointer (some ⟨b,0,none⟩),.pointer (some ⟨p,off,none⟩)] w fun e w'=>e=.returned (.bool ((R.iV bb bb.h 1 (M.cellsOf a)&&R.iV v 1 1 bb.h)&&R.iV tz 1 1 bb.h))/\w.grownBy w' none:=by
 obtain⟨ai,ci,an,cn,k0,k1,k2,k3,hI,hN⟩:=hO;rw[hi] at k1 hI;rw[ho] at k2;obtain⟨gi,ei,-,-,x0⟩:=hI.get 0 x rfl;subst ei;obtain⟨_,ei,-,-,x1⟩:=hI.get 1 y rfl;injection ei with ei;injection ei with ei _ _;subst ei;obtain⟨_,ei,-,-,x2⟩:=hI.get 2 u rfl;injection ei with ei;injection ei with ei _ _;subst ei;have q:=hT.q;obtain⟨-,A1,A2,A3,-⟩:=hT.t x a ha;have lx:(x:Int)<(g.ts.length:Int):=by
  rcases cE x g.ts.length with h' |h'
  ·omega
  ·rw[db h'] at ha;exact aN ha (by simp)
 obtain⟨-,B1,B2,B3,-⟩:=hT.t y bb eD;have ly:(y:Int)<(g.ts.length:Int):=by
  rcases cE y g.ts.length with h' |h'
  ·omega
  ·rw[db h'] at eD;exact aN eD (by simp)
 obtain⟨-,V1,V2,V3,-⟩:=hT.t u v hv;have lu:(u:Int)<(g.ts.length:Int):=by
  rcases cE u g.ts.length with h' |h'
  ·omega
  ·rw[db h'] at hv;exact aN hv (by simp)
 obtain⟨-,Z1,Z2,Z3,-⟩:=hT.t z tz hz;have lz:(z:Int)<(g.ts.length:Int):=by
  rcases cE z g.ts.length with h' |h'
  ·omega
  ·rw[db h'] at hz;exact aN hz (by simp)
 have HA:=ae (fun(W:World) (hW:∀a,W.cell? a=w.cell? a)=>GD ga (x*6) a W wa (by rw[hW];exact A1) (by rw[hW];exact A2) (by rw[hW];exact A3));have H1:=ae (fun(W:World) (hW:∀a,W.cell? a=w.cell? a)=>yl ga (y*6) bb (bb.h) (1) (M.cellsOf a) W (by rw[hW];exact B1) (by rw[hW];exact B2) (by rw[hW];exact B3));have H2:=ae (fun(W:World) (hW:∀a,W.cell? a=w.cell? a)=>yl ga (u*6) v (1) (1) (bb.h) W (by rw[hW];exact V1) (by rw[hW];exact V2) (by rw[hW];exact V3));have H3:=ae (fun(W:World) (hW:∀a,W.cell? a=w.cell? a)=>yl ga (z*6) tz (1) (1) (bb.h) W (by rw[hW];exact Z1) (by rw[hW];exact Z2) (by rw[hW];exact Z3));rw[hk] at k0;generalize g.ts.length=nt at *;clear hT hI hN hi ho ha eD hv hk hz k3;generalize R.iV tz 1 1 bb.h=s3 at *;generalize R.iV v 1 1 bb.h=s2 at *;generalize R.iV bb bb.h 1 (M.cellsOf a)=s1 at *;generalize M.cellsOf a=na at *;go_enter func72,ntmps72;go_wp2;go_quiet(fail);go_wp2;go_quiet(fail);go_wp2;go_quiet(fail);go_wp2;go_quiet(fail);go_wp2_with fail;refine Calls.mono (HA.out _ ?hh) ?_
 case hh=>exact fun _=>rfl
 rintro e W1⟨rfl,m1,rfl⟩;go_wp2_with fail;refine Calls.mono (H1.out _ ?hh) ?_
 case hh=>exact fun _=>rfl
 rintro e W1⟨rfl,rfl⟩;go_wp2_with fail;refine Calls.mono (H2.out _ ?hh) ?_
 case hh=>exact fun _=>rfl
 rintro e W1⟨rfl,rfl⟩;go_wp2_with fail;refine Calls.mono (H3.out _ ?hh) ?_
 case hh=>exact fun _=>rfl
 rintro e W1⟨rfl,rfl⟩
 cases s1
 ·go_wp2
  go_ret;exact⟨rfl,⟨rfl,rfl,rfl,bj _,fun _ _ _=>rfl⟩⟩
 ·cases s2
  ·go_wp2
   go_ret;exact⟨rfl,⟨rfl,rfl,rfl,bj _,fun _ _ _=>rfl⟩⟩
  ·go_wp2
   go_ret;exact⟨bB (by simp),⟨rfl,rfl,rfl,bj _,fun _ _ _=>rfl⟩⟩
namespace R
theorem avf{g:bX}{t:Int}{n:Nat}{ws bs:Bool}(h:there g t n ws bs=true):t<g.ts.length:=by
 rcases Int.lt_or_le t g.ts.length with h' |h'
 ·exact h'
 ·rw[aek h'] at h;exact aN h (by decide)
theorem VA{g:bX}(h:pT g=true){i:Nat}{o:Op}(ho:g.ag[i]?=some o):o.out<g.ts.length/\∀(k:Nat) x,o.ins[k]?=some x->x<g.ts.length:=by
 rw[KW,eX,eX,jn,jn] at h;have hi:i<g.ag.length:=by
  rcases cE i g.ag.length with h' |h'
  ·exact h'
  ·rw[db h'] at ho;exact aN ho (by simp)
 have h1:=h.1.2 i (List.mem_range.2 hi);rw[Ph ho,Pg,eX,jn] at h1;refine⟨by simpa using h1.1,fun k x hx=>?_⟩;have hk:k<o.ins.length:=by
  rcases cE k o.ins.length with h' |h'
  ·exact h'
  ·rw[db h'] at hx;exact aN hx (by simp)
 have h2:=h1.2 k (List.mem_range.2 hk);unfold uY at h2;rw[oa,hx] at h2;exact avf h2
end R
theorem Ds{α:Type}{l:List α}(h:l.length=1):∃a,l=[a]:=by
 match l,h with
 | [a],_=>exact⟨a,rfl⟩
theorem agB{α:Type}{l:List α}(h:l.length=2):∃a b,l=[a,b]:=by
 match l,h with
 | [a,b],_=>exact⟨a,b,rfl⟩
theorem VB{α:Type}{l:List α}(h:l.length=3):∃a b c,l=[a,b,c]:=by
 match l,h with
 | [a,b,c],_=>exact⟨a,b,c,rfl⟩
theorem agC{α:Type}{l:List α}(h:l.length=6):∃a b c d e f,l=[a,b,c,d,e,f]:=by
 match l,h with
 | [a,b,c,d,e,f],_=>exact⟨a,b,c,d,e,f,rfl⟩
theorem PO{g:R.bX}{x:Int}(h0:0<=x)(h1:x<g.ts.length):∃(n:Nat) (t:M.Tn),x=(n:Int)/\g.ts[n]?=some t:=by
 obtain⟨n,rfl⟩:=fT h0;exact⟨n,_,rfl,aS (by omega)⟩
theorem avg(b ga c1 go i:Nat)(g:R.bX)(o:R.Op)(w:World)(hT:tQ w b ga c1 g)(hO:j6 w go (i*4) o)(hw:EX g)(PQ:R.pT g=true)(ho:g.ag[i]?=some o):
 Calls prog 72 #[.pointer (some ⟨b,0,none⟩),.pointer (some ⟨go,i*4,none⟩)] w fun e w'=>e=.returned (.bool (R.gI g o))/\w.grownBy w' none:=by
 obtain⟨zR,PR⟩:=R.VA PQ ho;have wo:=hw.os o (bU ho);have fq:=wo.inl;have fP:=wo.nul;have oL:=wo.byt;obtain⟨z,tz,lH,hz⟩:=PO wo.Pd zR;have cY:∀(k:Nat) x,o.ins[k]?=some x->∃(n:Nat) (t:M.Tn),x=(n:Int)/\g.ts[n]?=some t:=fun k x hx=>PO (wo.ins x (bU hx)).1 (PR k x hx);have wf:∀{n:Nat} {t:M.Tn},g.ts[n]?=some t->dZ t:=fun h=>hw.ts _ (bU h);have ez:=R.nX hz;rcases R.KJ o.af wo.af with hk|hk|hk|hk|hk|hk|hk|hk|hk|hk
 ·rw[hk] at fq fP oL
  obtain⟨p0,p1,p2,hi⟩:=VB (show o.ins.length=3 from by have e:(o.ins.length:Int)=3:=fq;omega);obtain⟨n0,n1,n2,n3,n4,n5,hn⟩:=agC (show o.cO.length=6 from fP);obtain⟨x,a,rfl,ha⟩:=cY 0 p0 (by rw[hi];rfl);obtain⟨y,bb,rfl,eD⟩:=cY 1 p1 (by rw[hi];rfl);obtain⟨u,v,rfl,hv⟩:=cY 2 p2 (by rw[hi];rfl);have b0:=oL 0 n0 rfl (by rw[hn];rfl);refine(T0 b go (i*4) ga c1 g o w hT hO x y u z a bb v tz n0 n1 n2 n3 n4 n5 hi lH ha eD hv hz hw.nt hn hk (wf ha) (wf eD) (wf hv) b0).mono fun e w' ⟨he,hg⟩=>⟨?_,hg⟩;rw[he];refine bB ?_;have e1:=R.nX ha;have e2:=R.nX eD;have e3:=R.nX hv;simp[R.gI,R.ik,R.fy,hk,hi,lH,hn,e1,e2,e3,ez]
 ·rw[hk] at fq fP oL
  obtain⟨p0,p1,p2,hi⟩:=VB (show o.ins.length=3 from by have e:(o.ins.length:Int)=3:=fq;omega);obtain⟨n0,n1,n2,n3,n4,n5,hn⟩:=agC (show o.cO.length=6 from fP);obtain⟨x,a,rfl,ha⟩:=cY 0 p0 (by rw[hi];rfl);obtain⟨y,bb,rfl,eD⟩:=cY 1 p1 (by rw[hi];rfl);obtain⟨u,v,rfl,hv⟩:=cY 2 p2 (by rw[hi];rfl);have b0:=oL 0 n0 rfl (by rw[hn];rfl);refine(ave b go (i*4) ga c1 g o w hT hO x y u z a bb v tz n0 n1 n2 n3 n4 n5 hi lH ha eD hv hz hw.nt hn hk (wf ha) (wf eD) (wf hv) b0).mono fun e w' ⟨he,hg⟩=>⟨?_,hg⟩;rw[he];refine bB ?_;have e1:=R.nX ha;have e2:=R.nX eD;have e3:=R.nX hv;simp[R.gI,R.ik,R.fy,hk,hi,lH,hn,e1,e2,e3,ez]
 ·rw[hk] at fq fP oL
  obtain⟨p0,p1,p2,hi⟩:=VB (show o.ins.length=3 from by have e:(o.ins.length:Int)=3:=fq;omega);obtain⟨x,a,rfl,ha⟩:=cY 0 p0 (by rw[hi];rfl);obtain⟨y,bb,rfl,eD⟩:=cY 1 p1 (by rw[hi];rfl);obtain⟨u,v,rfl,hv⟩:=cY 2 p2 (by rw[hi];rfl);refine(avd b go (i*4) ga c1 g o w hT hO x y u z a bb v tz hi lH ha eD hv hz hw.nt hk (wf ha)).mono fun e w' ⟨he,hg⟩=>⟨?_,hg⟩;rw[he];refine bB ?_;have e1:=R.nX ha;have e2:=R.nX eD;have e3:=R.nX hv;simp[R.gI,R.ik,hk,hi,lH,e1,e2,e3,ez]
 ·rw[hk] at fq fP oL
  obtain⟨p0,p1,hi⟩:=agB (show o.ins.length=2 from by have e:(o.ins.length:Int)=2:=fq;omega);obtain⟨x,a,rfl,ha⟩:=cY 0 p0 (by rw[hi];rfl);obtain⟨y,bb,rfl,eD⟩:=cY 1 p1 (by rw[hi];rfl);refine(au4 b go (i*4) ga c1 g o w hT hO x y z a bb tz hi lH ha eD hz hw.nt hk).mono fun e w' ⟨he,hg⟩=>⟨?_,hg⟩;rw[he];refine bB ?_;have e1:=R.nX ha;have e2:=R.nX eD;simp[R.gI,R.ik,hk,hi,lH,e1,e2,ez]
 ·rw[hk] at fq fP oL
  obtain⟨p0,hi⟩:=Ds (show o.ins.length=1 from by have e:(o.ins.length:Int)=1:=fq;omega);obtain⟨n0,n1,n2,n3,hn⟩:=OX (show o.cO.length=4 from fP);obtain⟨x,a,rfl,ha⟩:=cY 0 p0 (by rw[hi];rfl);have b0:=oL 0 n0 rfl (by rw[hn];rfl);have b1:=oL 1 n1 rfl (by rw[hn];rfl);refine(agA b go (i*4) ga c1 g o w hT hO x z a tz n0 n1 n2 n3 hi lH ha hz hw.nt hn (.inl hk) (wf ha) b0 b1).mono fun e w' ⟨he,hg⟩=>⟨?_,hg⟩;rw[he];refine bB ?_;have e1:=R.nX ha;simp[R.gI,R.ik,R.fy,hk,hi,lH,hn,e1,ez]
 ·rw[hk] at fq fP oL
  obtain⟨p0,hi⟩:=Ds (show o.ins.length=1 from by have e:(o.ins.length:Int)=1:=fq;omega);obtain⟨n0,n1,n2,n3,hn⟩:=OX (show o.cO.length=4 from fP);obtain⟨x,a,rfl,ha⟩:=cY 0 p0 (by rw[hi];rfl);have b0:=oL 0 n0 rfl (by rw[hn];rfl);have b1:=oL 1 n1 rfl (by rw[hn];rfl);refine(agA b go (i*4) ga c1 g o w hT hO x z a tz n0 n1 n2 n3 hi lH ha hz hw.nt hn (.inr hk) (wf ha) b0 b1).mono fun e w' ⟨he,hg⟩=>⟨?_,hg⟩;rw[he];refine bB ?_;have e1:=R.nX ha;simp[R.gI,R.ik,R.fy,hk,hi,lH,hn,e1,ez]
 ·rw[hk] at fq fP oL
  obtain⟨p0,hi⟩:=Ds (show o.ins.length=1 from by have e:(o.ins.length:Int)=1:=fq;omega);obtain⟨x,a,rfl,ha⟩:=cY 0 p0 (by rw[hi];rfl);refine(au3 b go (i*4) ga c1 g o w hT hO x z a tz hi lH ha hz hw.nt hk).mono fun e w' ⟨he,hg⟩=>⟨?_,hg⟩;rw[he];refine bB ?_;have e1:=R.nX ha;simp[R.gI,R.ik,hk,hi,lH,e1,ez]
 ·rw[hk] at fq fP oL
  obtain⟨p0,hi⟩:=Ds (show o.ins.length=1 from by have e:(o.ins.length:Int)=1:=fq;omega);obtain⟨n0,n1,n2,n3,hn⟩:=OX (show o.cO.length=4 from fP);obtain⟨x,a,rfl,ha⟩:=cY 0 p0 (by rw[hi];rfl);have b0:=oL 0 n0 rfl (by rw[hn];rfl);have b1:=oL 1 n1 rfl (by rw[hn];rfl);have b2:=oL 2 n2 rfl (by rw[hn];rfl);have b3:=oL 3 n3 rfl (by rw[hn];rfl);refine(au7 b go (i*4) ga c1 g o w hT hO x z a tz n0 n1 n2 n3 hi lH ha hz hw.nt hn hk (wf ha) b0 b1 b2 b3).mono fun e w' ⟨he,hg⟩=>⟨?_,hg⟩;rw[he];refine bB ?_;have e1:=R.nX ha;simp[R.gI,R.ik,R.fy,hk,hi,lH,hn,e1,ez]
 ·rw[hk] at fq fP oL
  obtain⟨p0,hi⟩:=Ds (show o.ins.length=1 from by have e:(o.ins.length:Int)=1:=fq;omega);obtain⟨x,a,rfl,ha⟩:=cY 0 p0 (by rw[hi];rfl);refine(au6 b go (i*4) ga c1 g o w hT hO x z a tz hi lH ha hz hw.nt hk (wf ha) (wf hz)).mono fun e w' ⟨he,hg⟩=>⟨?_,hg⟩;rw[he];refine bB ?_;have e1:=R.nX ha;simp[R.gI,R.ik,hk,hi,lH,e1,ez]
 ·rw[hk] at fq fP oL
  obtain⟨p0,p1,hi⟩:=agB (show o.ins.length=2 from by have e:(o.ins.length:Int)=2:=fq;omega);obtain⟨x,a,rfl,ha⟩:=cY 0 p0 (by rw[hi];rfl);obtain⟨y,bb,rfl,eD⟩:=cY 1 p1 (by rw[hi];rfl);refine(avc b go (i*4) ga c1 g o w hT hO x y z a bb tz hi lH ha eD hz hw.nt hk (wf ha) (wf eD)).mono fun e w' ⟨he,hg⟩=>⟨?_,hg⟩;rw[he];refine bB ?_;have e1:=R.nX ha;have e2:=R.nX eD;simp[R.gI,R.ik,hk,hi,lH,e1,e2,ez]
end Go.Proofs.YtcnhfffgbamonaaGreat
