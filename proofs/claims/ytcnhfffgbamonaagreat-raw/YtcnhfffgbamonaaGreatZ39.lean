import Derived.Test.YtcnhfffgbamonaaGreatZ31
set_option maxRecDepth 100000
set_option maxHeartbeats 6400000
namespace Go.Proofs.YtcnhfffgbamonaaGreat
open Go.Proofs.Tryz
open RowKit
theorem T0(b p off ga c1:Nat)(g:R.bX)(o:R.Op)(w:World)(hT:tQ w b ga c1 g)(hO:j6 w p off o)(x y u z:Nat)(a bb v tz:M.Tn)(n0 n1 n2 n3 n4 n5:Int)(hi:o.ins=[(x:Int),(y:Int),(u:Int)])(ho:o.out=(z:Int))(ha:g.ts[x]?=some a)(eD:g.ts[y]?=some bb)(hv:g.ts[u]?=some v)(hz:g.ts[z]?=some tz)(_hn:g.ts.length<=255)(p8:o.cO=[n0,n1,n2,n3,n4,n5])(hk:o.af=1)(wa:dZ a)(wb:dZ bb)(wv:dZ v)(b0:0<=n0/\n0<=255):
 Calls prog 72 #[.pointer (some ⟨b,0,none⟩),.pointer (some ⟨p,off,none⟩)] w fun e w'=>e=.returned (.bool (if n0=0\/v.h≠1\/v.w≠1 then false else R.iV tz (R.gG a.h bb.h n0 (n1==1)) (R.gG a.w bb.w n0 (n1==1)) v.c&&(bb.c==a.c*v.c)&&true))/\w.grownBy w' none:=by
 obtain⟨ai,ci,an,cn,k0,k1,k2,k3,hI,hN⟩:=hO;rw[hi] at k1 hI;rw[ho] at k2;rw[p8] at k3 hN;obtain⟨gi,ei,-,-,x0⟩:=hI.get 0 x rfl;subst ei;obtain⟨_,ei,-,-,x1⟩:=hI.get 1 y rfl;injection ei with ei;injection ei with ei _ _;subst ei;obtain⟨_,ei,-,-,x2⟩:=hI.get 2 u rfl;injection ei with ei;injection ei with ei _ _;subst ei;obtain⟨gn,en,-,-,y0⟩:=hN.get 0 n0 rfl;subst en;obtain⟨_,en,-,-,y1⟩:=hN.get 1 n1 rfl;injection en with en;injection en with en _ _;subst en;obtain⟨_,en,-,-,y2⟩:=hN.get 2 n2 rfl;injection en with en;injection en with en _ _;subst en;obtain⟨_,en,-,-,y3⟩:=hN.get 3 n3 rfl;injection en with en;injection en with en _ _;subst en;obtain⟨_,en,-,-,y4⟩:=hN.get 4 n4 rfl;injection en with en;injection en with en _ _;subst en;obtain⟨_,en,-,-,y5⟩:=hN.get 5 n5 rfl;injection en with en;injection en with en _ _;subst en;have q:=hT.q;obtain⟨-,A1,A2,A3,-⟩:=hT.t x a ha;have lx:(x:Int)<(g.ts.length:Int):=by
  rcases cE x g.ts.length with h' |h'
  ·omega
  ·rw[db h'] at ha;exact aN ha (by simp)
 obtain⟨-,B1,B2,B3,-⟩:=hT.t y bb eD;have ly:(y:Int)<(g.ts.length:Int):=by
  rcases cE y g.ts.length with h' |h'
  ·omega
  ·rw[db h'] at eD;exact aN eD (by simp)
 obtain⟨-,V1,V2,V3,-⟩:=hT.t u v hv;have lu:(u:Int)<(g.ts.length:Int):=by
  rcases cE u g.ts.length with h' |h'
  ·omega
  ·rw[db h'] at hv;exact aN hv (by simp)
 obtain⟨-,Z1,Z2,Z3,-⟩:=hT.t z tz hz;have lz:(z:Int)<(g.ts.length:Int):=by
  rcases cE z g.ts.length with h' |h'
  ·omega
  ·rw[db h'] at hz;exact aN hz (by simp)
 by_cases fB:n0=0\/v.h≠1\/v.w≠1
 ·rw[ay fB]
  have pY:(n0==0)=true\/((n0==0)=false/\(v.h !=1)=true)\/((n0==0)=false/\(v.h !=1)=false/\(v.w !=1)=true):=by
   by_cases h0:n0=0
   ·exact .inl (by simp[h0])
   ·by_cases h1:v.h=1
    ·exact .inr (.inr ⟨by simp[h0],by simp[h1],by rcases fB with h|h|h;exact aN h h0;exact aN h1 h;simp[h]⟩)
    ·exact .inr (.inl ⟨by simp[h0],by simp[h1]⟩)
  clear fB wa wb wv b0;generalize g.ts.length=nt at *;clear hT hI hN hi ho ha eD hv hz p8;rw[hk] at k0;clear hk;rcases pY with r1|⟨r1,r2⟩|⟨r1,r2,r3⟩
  all_goals
   go_enter func72,ntmps72;go_wp2;go_quiet(fail);go_wp2;go_quiet(fail);go_wp2;go_quiet(fail);go_wp2;go_quiet(fail);go_wp2;go_ret;exact⟨rfl,⟨rfl,rfl,rfl,bj _,fun _ _ _=>rfl⟩⟩
 ·rw[ak fB]
  have r1:(n0==0)=false:=by simp;omega
  have r2:(v.h !=1)=false:=by simp;omega
  have r3:(v.w !=1)=false:=by simp;omega
  have Dy:=ae (fun W=>ER a.h bb.h n0 (n1==1) W wa.h0 (by have:=wa.h1;omega) wb.h0 (by have:=wb.h1;omega) (by omega) (by omega));have mC:=ae (fun W=>ER a.w bb.w n0 (n1==1) W wa.w0 (by have:=wa.w1;omega) wb.w0 (by have:=wb.w1;omega) (by omega) (by omega));have em:IntKind.i64.wrap (a.c*v.c)=a.c*v.c:=by
   have m:=xn (h:=1) (by decide) (by decide) wa.c0 wa.c1 wv.c0 wv.c1;rw[Int.one_mul] at m;rw[cU];omega
  clear fB wa wb wv b0;have HC:=ae (fun(W:World) (hW:∀a,W.cell? a=w.cell? a)=>yl ga (z*6) tz (R.gG a.h bb.h n0 (n1==1)) (R.gG a.w bb.w n0 (n1==1)) (v.c) W (by rw[hW];exact Z1) (by rw[hW];exact Z2) (by rw[hW];exact Z3));generalize g.ts.length=nt at *;clear hT hI hN hi ho ha eD hv hz p8;rw[hk] at k0;clear hk;generalize R.iV tz (R.gG a.h bb.h n0 (n1==1)) (R.gG a.w bb.w n0 (n1==1)) v.c=jL at *;generalize R.gG a.h bb.h n0 (n1==1)=ph at *;generalize R.gG a.w bb.w n0 (n1==1)=pw at *;generalize hmm:a.c*v.c=mm at *
  cases jL<;>cases r5:(bb.c==mm)
  all_goals
   go_enter func72,ntmps72;go_wp2;go_quiet(fail);go_wp2;go_quiet(fail);go_wp2;go_quiet(fail);go_wp2;go_quiet(fail);go_wp2;go_quiet(exact yp (Dy.out _));go_wp2;go_quiet(exact yp (mC.out _));go_wp2;go_quiet(fail);go_wp2_with fail;refine Calls.mono (HC.out _ ?hh) ?_
   case hh=>exact fun _=>rfl
   rintro e W1⟨rfl,rfl⟩;go_wp2;go_quiet(fail);go_wp2;go_ret;exact⟨bB (by simp),⟨rfl,rfl,rfl,bj _,fun _ _ _=>rfl⟩⟩
end Go.Proofs.YtcnhfffgbamonaaGreat
