import Derived.Deep.CutRange
import Derived.Test.YtcnhfffgbamonaaGreatZ23
set_option maxRecDepth 100000
set_option maxHeartbeats 6400000
namespace Go.Proofs.YtcnhfffgbamonaaGreat
open Go.Proofs.Tryz
open RowKit
theorem apA(lb g0 c0 c1 n:Nat)(ls:List T.Lf)(bs:List H.Bf)(gV:Nat)(w:World)(hL:aj w lb 173 (ls.flatMap kA).toArray)(hB:aj w g0 125 (bs.flatMap gm).toArray)(hn:n=bs.length)(ok:T.Ox ls bs (H.gU bs))(hs:gV<=1000):
 Calls prog 79 #[.slice (some ⟨lb,0,none⟩) n c0,.slice (some ⟨g0,0,none⟩) n c1,.int .i64 (H.gU bs),.int .i64 gV] w fun e w'=>e=.returned (.bool true)/\w.grownBy w' none:=by
 subst hn;have HL:=ae hL;have HB:=ae hB;have jx:=ae ok;have wG:=ok.pd;have hE:∀k,k<=bs.length->0<=H.endTo bs k/\H.endTo bs k<=100000:=fun k hk=>⟨H.Cj _ _,H.IY (by decide) k fun i hi=>(ok.bG i (by omega)).2.2.2⟩;have hS:∀k,k<=bs.length->0<=T.sumTo bs k/\T.sumTo bs k<=512*64:=by
  intro k hk;have h1:=T.Tf (fun i hi=>(ok.bG i hi).2.2.1) k hk;have h2:∀k,k<=bs.length->0<=T.sumTo bs k:=by
   intro k
   induction k with
   |zero=>intro _;exact Int.le_refl _
   |succ k ih=>intro hk;have:=ih (by omega);have:=(ok.bG k (by omega)).2.1;unfold T.sumTo;omega
  have:=h2 k hk;omega
 have HE:=ae hE;have HSu:=ae hS;clear hL hB ok hE hS;go_enter func79,ntmps79;go_wp2;go_loopw[9,10,11] (fun e s i wr=>∃k:Nat,k<=bs.length/\e=.int .i64 (H.endTo bs k)/\s=.int .i64 (T.sumTo bs k)/\i=.int .i64 k/\w.grownBy wr none) (fun _ _ i _=>bs.length-(intOf i).toNat)
 case atStart=>exact⟨0,bK _,rfl,rfl,rfl,fZ _ _⟩
 case round=>
  obtain⟨k,hk,rfl,rfl,rfl,aF⟩:=hrel;by_cases aJ:k<bs.length
  ·obtain⟨p0,p1,p2,p3⟩:=jx.out.bG k aJ
   obtain⟨d0,d1⟩:=CP (HB.out.kept aF (by simp)) aJ;have he:=HE.out k hk;have hsu:=HSu.out k hk;have e1:T.sumTo bs (k+1)=T.sumTo bs k+(bs.getD k H.aV).c:=rfl;have e2:H.endTo bs (k+1)=if H.endTo bs k<(bs.getD k H.aV).a+(bs.getD k H.aV).c then (bs.getD k H.aV).a+(bs.getD k H.aV).c else H.endTo bs k:=rfl;have kD:=ae e2;have Ge:=ae e1;have p3':(bs.getD k H.aV).a+(bs.getD k H.aV).c<=100000:=p3;clear e1 e2 p3;generalize (bs.getD k H.aV).a=a at *;generalize (bs.getD k H.aV).c=c at *;generalize H.endTo bs k=E at *;generalize T.sumTo bs k=su at *;have bH:=ae aF;have wac:IntKind.i64.wrap (a+c)=a+c:=by rw[cU];omega
   by_cases lk:E<a+c
   ·have v1:decide (a+c > E)=true:=eG lk
    rw[ay lk] at kD;clear aF lk;go_wp2;go_quiet(fail);have g1:=bE wr nq none;have Ba:=aG g1 d0;have OE:=aG g1 d1;have Ki:=ae (aC bH.out g1);clear g1 d0 d1 bH;generalize wr.drewN nq=wp at *;go_wp2;go_quiet(fail);have iy:=ae (aC Ki.out (bE wp nq none));clear Ba OE p0 p1 p2 p3' Ki wac;generalize wp.drewN nq=wq at *;go_wp2;go_loopw[12] (fun i wr=>∃j:Nat,j<=k/\i=.int .i64 j/\w.grownBy wr none) (fun i _=>k-(intOf i).toNat)
    case atStart=>exact⟨0,bK _,rfl,iy.out⟩
    case round=>
     obtain⟨j,hj,rfl,bO⟩:=hrel;by_cases Gf:j<k
     ·have ko:j<bs.length:=by omega
      obtain⟨d0,d1⟩:=CP (HB.out.kept bO (by simp)) aJ;obtain⟨d2,d3⟩:=CP (HB.out.kept bO (by simp)) ko;have oF:ls.length=bs.length:=jx.out.len;obtain⟨m0,m1,-⟩:=zx (HL.out.kept bO (by simp)) (zC (show k<ls.length by omega));obtain⟨m2,m3,-⟩:=zx (HL.out.kept bO (by simp)) (zC (show j<ls.length by omega));have eW:=jx.out.bG k aJ;have gj:=jx.out.bG j ko;have CQ:=ae (jx.out.apart k j aJ Gf);have q1:IntKind.i64.wrap ((bs.getD k H.aV).a+(bs.getD k H.aV).c)=(bs.getD k H.aV).a+(bs.getD k H.aV).c:=by
       have h1:(bs.getD k H.aV).a+(bs.getD k H.aV).c<=100000:=eW.2.2.2;rw[cU];omega
      have q2:IntKind.i64.wrap ((bs.getD j H.aV).a+(bs.getD j H.aV).c)=(bs.getD j H.aV).a+(bs.getD j H.aV).c:=by
       have h1:(bs.getD j H.aV).a+(bs.getD j H.aV).c<=100000:=gj.2.2.2;rw[cU];omega
      have Kj:Hid (¬(((ls.getD k T.no).f<=(ls.getD j T.no).t/\(ls.getD j T.no).f<=(ls.getD k T.no).t)/\(bs.getD k H.aV).a<(bs.getD j H.aV).a+(bs.getD j H.aV).c/\(bs.getD j H.aV).a<(bs.getD k H.aV).a+(bs.getD k H.aV).c)):=CQ.out;have apC:k<ls.length:=by omega
      have acG:j<ls.length:=by omega
      have tK:=ae bO;have zD:=ae oF;clear eW gj CQ oF bO;generalize (bs.getD k H.aV).a=ka at *;generalize (bs.getD k H.aV).c=kc at *;generalize (bs.getD j H.aV).a=ja at *;generalize (bs.getD j H.aV).c=jc at *;generalize (ls.getD k T.no).f=kf at *;generalize (ls.getD k T.no).t=kt at *;generalize (ls.getD j T.no).f=jf at *;generalize (ls.getD j T.no).t=jt at *;rw[<-zD.out] at aJ ko ⊢
      go_upto_region 14 with fail
      go_cut [13] from 69 to 137 (fun s wx=>s=.bool (decide (kf<=jt)&&decide (jf<=kt))/\wr.grownBy wx none)
      case first=>
       by_cases v1:kf<=jt
       ·have b1:decide (kf<=jt)=true:=eG v1
        by_cases v2:jf<=kt
        ·have b2:decide (jf<=kt)=true:=eG v2
         go_quiet(fail);go_wp2_with fail
         go_meet
         exact⟨by rw[b1,b2];rfl,bE _ _ _⟩
        ·have b2:decide (jf<=kt)=false:=eE v2
         go_quiet(fail);go_wp2_with fail
         go_meet
         exact⟨by rw[b1,b2];rfl,bE _ _ _⟩
       ·have b1:decide (kf<=jt)=false:=eE v1
        go_quiet(fail);go_wp2_with fail
        go_meet
        exact⟨by rw[b1];rfl,bE _ _ _⟩
      case rest=>
       obtain⟨rfl,gd⟩:=hcut;have e0:=aG gd d0;have e1:=aG gd d1;have e2:=aG gd d2;have e3:=aG gd d3;have ke:=ae (aC tK.out gd);clear gd d0 d1 d2 d3 m0 m1 m2 m3 tK;rw[zD.out] at aJ ko
       go_upto_region 15 with fail
       go_cut [14] from 69 to 137 (fun s wx=>s=.bool (decide (ka<ja+jc)&&decide (ja<ka+kc))/\wc.grownBy wx none)
       case first=>
        by_cases v1:ka<ja+jc
        ·have b1:decide (ka<ja+jc)=true:=eG v1
         by_cases v2:ja<ka+kc
         ·have b2:decide (ja<ka+kc)=true:=eG v2
          go_quiet(fail);go_wp2_with fail
          go_meet
          exact⟨by rw[b1,b2];rfl,bE _ _ _⟩
         ·have b2:decide (ja<ka+kc)=false:=eE v2
          go_quiet(fail);go_wp2_with fail
          go_meet
          exact⟨by rw[b1,b2];rfl,bE _ _ _⟩
        ·have b1:decide (ka<ja+jc)=false:=eE v1
         go_quiet(fail);go_wp2_with fail
         go_meet
         exact⟨by rw[b1];rfl,bE _ _ _⟩
       case rest=>
        obtain⟨rfl,Kk⟩:=hcut;have oI:=ae (aC ke.out Kk);have oD:Hid ((decide (kf<=jt)&&decide (jf<=kt))=false\/(decide (ka<ja+jc)&&decide (ja<ka+kc))=false):=by
         by_cases h1:kf<=jt/\jf<=kt
         ·right
          by_cases h2:ka<ja+jc/\ja<ka+kc
          ·exact aN ⟨h1,h2⟩ Kj.out
          ·rw[Bool.and_eq_false_iff,decide_eq_false_iff_not,decide_eq_false_iff_not];omega
         ·left
          rw[Bool.and_eq_false_iff,decide_eq_false_iff_not,decide_eq_false_iff_not];omega
        clear Kk e0 e1 e2 e3 ke Kj;generalize (decide (kf<=jt)&&decide (jf<=kt))=b1 at *;generalize (decide (ka<ja+jc)&&decide (ja<ka+kc))=b2 at *;rcases oD.out with rfl|rfl
        ·go_wp2
         go_roundw
         case rel=>exact⟨j+1,by omega,by go_num,oI.out⟩
         case measure=>simp[intOf];omega
        ·cases b1 with
         |false=>
          go_wp2;go_roundw
          case rel=>exact⟨j+1,by omega,by go_num,oI.out⟩
          case measure=>simp[intOf];omega
         |true=>
          go_wp2;go_roundw
          case rel=>exact⟨j+1,by omega,by go_num,oI.out⟩
          case measure=>simp[intOf];omega
     ·obtain rfl:j=k:=by omega
      have cV:=ae bO;clear bO;go_wp2;go_roundw
      case rel=>exact⟨j+1,by omega,by rw[kD.out],by rw[Ge.out],by go_num,cV.out⟩
      case measure=>simp[intOf];omega
   ·have v1:decide (a+c > E)=false:=eE lk
    rw[ak lk] at kD;clear aF lk;go_wp2;go_quiet(fail);have g1:=bE wr nq none;have Ba:=aG g1 d0;have OE:=aG g1 d1;have Ki:=ae (aC bH.out g1);clear g1 d0 d1 bH;generalize wr.drewN nq=wp at *;go_wp2;have iy:=Ki;clear Ba OE p0 p1 p2 p3' Ki wac;go_loopw[12] (fun i wr=>∃j:Nat,j<=k/\i=.int .i64 j/\w.grownBy wr none) (fun i _=>k-(intOf i).toNat)
    case atStart=>exact⟨0,bK _,rfl,iy.out⟩
    case round=>
     obtain⟨j,hj,rfl,bO⟩:=hrel;by_cases Gf:j<k
     ·have ko:j<bs.length:=by omega
      obtain⟨d0,d1⟩:=CP (HB.out.kept bO (by simp)) aJ;obtain⟨d2,d3⟩:=CP (HB.out.kept bO (by simp)) ko;have oF:ls.length=bs.length:=jx.out.len;obtain⟨m0,m1,-⟩:=zx (HL.out.kept bO (by simp)) (zC (show k<ls.length by omega));obtain⟨m2,m3,-⟩:=zx (HL.out.kept bO (by simp)) (zC (show j<ls.length by omega));have eW:=jx.out.bG k aJ;have gj:=jx.out.bG j ko;have CQ:=ae (jx.out.apart k j aJ Gf);have q1:IntKind.i64.wrap ((bs.getD k H.aV).a+(bs.getD k H.aV).c)=(bs.getD k H.aV).a+(bs.getD k H.aV).c:=by
       have h1:(bs.getD k H.aV).a+(bs.getD k H.aV).c<=100000:=eW.2.2.2;rw[cU];omega
      have q2:IntKind.i64.wrap ((bs.getD j H.aV).a+(bs.getD j H.aV).c)=(bs.getD j H.aV).a+(bs.getD j H.aV).c:=by
       have h1:(bs.getD j H.aV).a+(bs.getD j H.aV).c<=100000:=gj.2.2.2;rw[cU];omega
      have Kj:Hid (¬(((ls.getD k T.no).f<=(ls.getD j T.no).t/\(ls.getD j T.no).f<=(ls.getD k T.no).t)/\(bs.getD k H.aV).a<(bs.getD j H.aV).a+(bs.getD j H.aV).c/\(bs.getD j H.aV).a<(bs.getD k H.aV).a+(bs.getD k H.aV).c)):=CQ.out;have apC:k<ls.length:=by omega
      have acG:j<ls.length:=by omega
      have tK:=ae bO;have zD:=ae oF;clear eW gj CQ oF bO;generalize (bs.getD k H.aV).a=ka at *;generalize (bs.getD k H.aV).c=kc at *;generalize (bs.getD j H.aV).a=ja at *;generalize (bs.getD j H.aV).c=jc at *;generalize (ls.getD k T.no).f=kf at *;generalize (ls.getD k T.no).t=kt at *;generalize (ls.getD j T.no).f=jf at *;generalize (ls.getD j T.no).t=jt at *;rw[<-zD.out] at aJ ko ⊢
      go_upto_region 14 with fail
      go_cut [13] from 69 to 137 (fun s wx=>s=.bool (decide (kf<=jt)&&decide (jf<=kt))/\wr.grownBy wx none)
      case first=>
       by_cases v1:kf<=jt
       ·have b1:decide (kf<=jt)=true:=eG v1
        by_cases v2:jf<=kt
        ·have b2:decide (jf<=kt)=true:=eG v2
         go_quiet(fail);go_wp2_with fail
         go_meet
         exact⟨by rw[b1,b2];rfl,bE _ _ _⟩
        ·have b2:decide (jf<=kt)=false:=eE v2
         go_quiet(fail);go_wp2_with fail
         go_meet
         exact⟨by rw[b1,b2];rfl,bE _ _ _⟩
       ·have b1:decide (kf<=jt)=false:=eE v1
        go_quiet(fail);go_wp2_with fail
        go_meet
        exact⟨by rw[b1];rfl,bE _ _ _⟩
      case rest=>
       obtain⟨rfl,gd⟩:=hcut;have e0:=aG gd d0;have e1:=aG gd d1;have e2:=aG gd d2;have e3:=aG gd d3;have ke:=ae (aC tK.out gd);clear gd d0 d1 d2 d3 m0 m1 m2 m3 tK;rw[zD.out] at aJ ko
       go_upto_region 15 with fail
       go_cut [14] from 69 to 137 (fun s wx=>s=.bool (decide (ka<ja+jc)&&decide (ja<ka+kc))/\wc.grownBy wx none)
       case first=>
        by_cases v1:ka<ja+jc
        ·have b1:decide (ka<ja+jc)=true:=eG v1
         by_cases v2:ja<ka+kc
         ·have b2:decide (ja<ka+kc)=true:=eG v2
          go_quiet(fail);go_wp2_with fail
          go_meet
          exact⟨by rw[b1,b2];rfl,bE _ _ _⟩
         ·have b2:decide (ja<ka+kc)=false:=eE v2
          go_quiet(fail);go_wp2_with fail
          go_meet
          exact⟨by rw[b1,b2];rfl,bE _ _ _⟩
        ·have b1:decide (ka<ja+jc)=false:=eE v1
         go_quiet(fail);go_wp2_with fail
         go_meet
         exact⟨by rw[b1];rfl,bE _ _ _⟩
       case rest=>
        obtain⟨rfl,Kk⟩:=hcut;have oI:=ae (aC ke.out Kk);have oD:Hid ((decide (kf<=jt)&&decide (jf<=kt))=false\/(decide (ka<ja+jc)&&decide (ja<ka+kc))=false):=by
         by_cases h1:kf<=jt/\jf<=kt
         ·right
          by_cases h2:ka<ja+jc/\ja<ka+kc
          ·exact aN ⟨h1,h2⟩ Kj.out
          ·rw[Bool.and_eq_false_iff,decide_eq_false_iff_not,decide_eq_false_iff_not];omega
         ·left
          rw[Bool.and_eq_false_iff,decide_eq_false_iff_not,decide_eq_false_iff_not];omega
        clear Kk e0 e1 e2 e3 ke Kj;generalize (decide (kf<=jt)&&decide (jf<=kt))=b1 at *;generalize (decide (ka<ja+jc)&&decide (ja<ka+kc))=b2 at *;rcases oD.out with rfl|rfl
        ·go_wp2
         go_roundw
         case rel=>exact⟨j+1,by omega,by go_num,oI.out⟩
         case measure=>simp[intOf];omega
        ·cases b1 with
         |false=>
          go_wp2;go_roundw
          case rel=>exact⟨j+1,by omega,by go_num,oI.out⟩
          case measure=>simp[intOf];omega
         |true=>
          go_wp2;go_roundw
          case rel=>exact⟨j+1,by omega,by go_num,oI.out⟩
          case measure=>simp[intOf];omega
     ·obtain rfl:j=k:=by omega
      have cV:=ae bO;clear bO;go_wp2;go_roundw
      case rel=>exact⟨j+1,by omega,by rw[kD.out],by rw[Ge.out],by go_num,cV.out⟩
      case measure=>simp[intOf];omega
  ·obtain rfl:k=bs.length:=by omega
   have bH:=ae aF;clear aF;go_wp2;go_loopw[15] (fun i wr=>∃m:Nat,m<=gV+2/\i=.int .i64 ((m:Int)-1)/\w.grownBy wr none) (fun i _=>gV+2-(intOf i+1).toNat)
   case atStart=>exact⟨0,bK _,rfl,bH.out⟩
   case round=>
    clear bH;obtain⟨m,hm,rfl,xX⟩:=hrel;by_cases acH:m<gV+2
    ·have OG:=ae xX
     have acI:=jx.out.Te ((m:Int)-1);have acJ:=ae acI;obtain⟨tt,Gg⟩:∃tt,Hid ((m:Int)-1=tt):=⟨_,rfl⟩;have ht1:tt<=(gV:Int):=by have:=Gg.out;omega
     have tL:-1<=tt:=by have:=Gg.out;omega
     rw[Gg.out] at acJ ⊢;clear xX acI acH hm;have cP:∀k,k<=bs.length->0<=T.tI ls bs tt k/\T.tI ls bs tt k<=512*k:=by
      intro k
      induction k with
      |zero=>intro _;exact⟨Int.le_refl _,by show(0:Int)<=512*((0:Nat):Int);decide⟩
      |succ k ih=>
       intro hk;have h1:=ih (by omega);have h2:=(jx.out.bG k (by omega)).2.1;have h3:=(jx.out.bG k (by omega)).2.2.1;unfold T.tI
       split<;>omega
     have HZ:=ae cP;clear cP;go_wp2;go_loopw[16,17] (fun s i wr=>∃k:Nat,k<=bs.length/\s=.int .i64 (T.tI ls bs tt k)/\i=.int .i64 k/\w.grownBy wr none) (fun _ i _=>bs.length-(intOf i).toNat)
     case atStart=>exact⟨0,bK _,rfl,rfl,OG.out⟩
     case round=>
      clear OG;obtain⟨k,rL,rfl,rfl,aF⟩:=hrel;by_cases zE:k<bs.length
      ·obtain⟨d0,d1⟩:=CP (HB.out.kept aF (by simp)) zE
       have oF:ls.length=bs.length:=jx.out.len;obtain⟨m0,m1,-⟩:=zx (HL.out.kept aF (by simp)) (zC (show k<ls.length by omega));have iq:=HZ.out k rL;have eW:=(jx.out.bG k zE).2.1;have gj:=(jx.out.bG k zE).2.2.1;have He:Hid (T.tI ls bs tt (k+1)=if (ls.getD k T.no).f<=tt/\tt<=(ls.getD k T.no).t then T.tI ls bs tt k+(bs.getD k H.aV).c else T.tI ls bs tt k):=rfl;have zD:=ae oF;have bH:=ae aF;clear oF aF;generalize (bs.getD k H.aV).a=ka at *;generalize (bs.getD k H.aV).c=kc at *;generalize (ls.getD k T.no).f=kf at *;generalize (ls.getD k T.no).t=kt at *;generalize T.tI ls bs tt k=nw at *;by_cases v1:kf<=tt
       ·by_cases v2:tt<=kt
        ·rw[ay ⟨v1,v2⟩] at He
         go_wp2;go_roundw
         case rel=>exact⟨k+1,by omega,by rw[He.out],by go_num,bH.out⟩
         case measure=>simp[intOf];omega
        ·rw[ak (fun h=>v2 h.2)] at He
         go_wp2;go_roundw
         case rel=>exact⟨k+1,by omega,by rw[He.out],by go_num,bH.out⟩
         case measure=>simp[intOf];omega
       ·rw[ak (fun h=>v1 h.1)] at He
        go_wp2;go_roundw
        case rel=>exact⟨k+1,by omega,by rw[He.out],by go_num,bH.out⟩
        case measure=>simp[intOf];omega
      ·obtain rfl:k=bs.length:=by omega
       have hnw:=acJ.out;have bH:=ae aF;clear aF;generalize T.tI ls bs tt bs.length=nw at *;go_wp2;go_roundw
       case rel=>exact⟨m+1,by have:=Gg.out;omega,by rw[<-Gg.out];go_num,bH.out⟩
       case measure=>have:=Gg.out;simp[intOf];omega
    ·obtain rfl:m=gV+2:=by omega
     have OG:=ae xX;have D3:=jx.out.sum;have hb:(H.gU bs==H.endTo bs bs.length)=true:=by unfold H.gU;simp
     have hE2:H.endTo bs bs.length=H.gU bs:=rfl;have dg:¬((((gV+2:Nat):Int)-1)<=(gV:Int)):=by omega
     clear xX acH;rw[hE2];go_wp2;go_ret;exact⟨rfl,OG.out⟩
end Go.Proofs.YtcnhfffgbamonaaGreat
