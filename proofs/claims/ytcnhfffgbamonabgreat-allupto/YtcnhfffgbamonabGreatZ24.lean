import Derived.Deep.CutRange
import Derived.Test.YtcnhfffgbamonabGreatZ23
set_option maxRecDepth 100000
set_option maxHeartbeats 6400000
namespace Go.Proofs.YtcnhfffgbamonabGreat
open Go.Proofs.Tryz
open Go.RowKit
theorem aos(lb g0 c0 c1 n:Nat)(ls:List T.Lf)(bs:List H.Bf)(gS:Nat)(w:World)(hL:aj w lb 186 (ls.flatMap ko).toArray)(hB:aj w g0 116 (bs.flatMap gj).toArray)(hn:n=bs.length)(ok:T.NT ls bs (H.gR bs))(hs:gS<=1000) :
  Calls prog 78 #[.slice (some ⟨lb,0,none⟩) n c0,.slice (some ⟨g0,0,none⟩) n c1,.int .i64 (H.gR bs),.int .i64 gS] w fun e w'=>e=.returned (.bool true)/\w.grownBy w' none:=by
 subst hn;have HL:=ae hL;have HB:=ae hB;have jq:=ae ok;have vU:=ok.oX;have hE:∀k,k<=bs.length->0<=H.endTo bs k/\H.endTo bs k<=100000:=fun k hk=>⟨H.BW _ _,H.Iw (by decide) k fun i hi=>(ok.bG i (by omega)).2.2.2⟩;have hS:∀k,k<=bs.length->0<=T.sumTo bs k/\T.sumTo bs k<=512*64:=by
  intro k hk;have h1:=T.Sw (fun i hi=>(ok.bG i hi).2.2.1) k hk;have h2:∀k,k<=bs.length->0<=T.sumTo bs k:=by
   intro k
   induction k with
   | zero=>intro _;exact Int.le_refl _
   | succ k ih=>intro hk;have:=ih (by omega);have:=(ok.bG k (by omega)).2.1;unfold T.sumTo;omega
  have:=h2 k hk;omega
 have HE:=ae hE;have HSu:=ae hS;clear hL hB ok hE hS;go_enter func78,ntmps78;go_wp2;go_loopw[9,10,11] (fun e s i wr=>∃k:Nat,k<=bs.length/\e=.int .i64 (H.endTo bs k)/\s=.int .i64 (T.sumTo bs k)/\i=.int .i64 k/\w.grownBy wr none) (fun _ _ i _=>bs.length-(intOf i).toNat)
 case atStart=>exact⟨0,bK _,rfl,rfl,rfl,gL _ _⟩
 case round=>
  obtain⟨k,hk,rfl,rfl,rfl,aF⟩:=hrel;by_cases aK:k<bs.length
  ·obtain⟨p0,p1,p2,p3⟩:=jq.out.bG k aK
   obtain⟨d0,d1⟩:=CA (HB.out.kept aF (by simp)) aK;have he:=HE.out k hk;have hsu:=HSu.out k hk;have e1:T.sumTo bs (k+1)=T.sumTo bs k+(bs.getD k H.aV).c:=rfl;have e2:H.endTo bs (k+1)=if H.endTo bs k<(bs.getD k H.aV).a+(bs.getD k H.aV).c then (bs.getD k H.aV).a+(bs.getD k H.aV).c else H.endTo bs k:=rfl;have kx:=ae e2;have FE:=ae e1;have p3':(bs.getD k H.aV).a+(bs.getD k H.aV).c<=100000:=p3;clear e1 e2 p3;generalize (bs.getD k H.aV).a=a at *;generalize (bs.getD k H.aV).c=c at *;generalize H.endTo bs k=E at *;generalize T.sumTo bs k=su at *;have bH:=ae aF;have wac:IntKind.i64.wrap (a+c)=a+c:=by rw[cS];omega
   by_cases kZ:E<a+c
   ·have v1:decide (a+c > E)=true:=eG kZ
    rw[ay kZ] at kx;clear aF kZ;go_wp2;go_quiet (fail);have g1:=bF wr nq none;have AN:=aG g1 d0;have N5:=aG g1 d1;have JL:=ae (aC bH.out g1);clear g1 d0 d1 bH;generalize wr.drewN nq=wp at *;go_wp2;go_quiet (fail);have iy:=ae (aC JL.out (bF wp nq none));clear AN N5 p0 p1 p2 p3' JL wac;generalize wp.drewN nq=wq at *;go_wp2;go_loopw[12] (fun i wr=>∃j:Nat,j<=k/\i=.int .i64 j/\w.grownBy wr none) (fun i _=>k-(intOf i).toNat)
    case atStart=>exact⟨0,bK _,rfl,iy.out⟩
    case round=>
     obtain⟨j,hj,rfl,bO⟩:=hrel;by_cases FF:j<k
     ·have ke:j<bs.length:=by omega
      obtain⟨d0,d1⟩:=CA (HB.out.kept bO (by simp)) aK;obtain⟨d2,d3⟩:=CA (HB.out.kept bO (by simp)) ke;have qi:ls.length=bs.length:=jq.out.len;obtain⟨m0,m1,-⟩:=yS (HL.out.kept bO (by simp)) (yW (show k<ls.length by omega));obtain⟨m2,m3,-⟩:=yS (HL.out.kept bO (by simp)) (yW (show j<ls.length by omega));have eV:=jq.out.bG k aK;have fY:=jq.out.bG j ke;have CB:=ae (jq.out.apart k j aK FF);have q1:IntKind.i64.wrap ((bs.getD k H.aV).a+(bs.getD k H.aV).c)=(bs.getD k H.aV).a+(bs.getD k H.aV).c:=by
       have h1:(bs.getD k H.aV).a+(bs.getD k H.aV).c<=100000:=eV.2.2.2;rw[cS];omega
      have q2:IntKind.i64.wrap ((bs.getD j H.aV).a+(bs.getD j H.aV).c)=(bs.getD j H.aV).a+(bs.getD j H.aV).c:=by
       have h1:(bs.getD j H.aV).a+(bs.getD j H.aV).c<=100000:=fY.2.2.2;rw[cS];omega
      have JM:Hid (¬(((ls.getD k T.no).f<=(ls.getD j T.no).t/\(ls.getD j T.no).f<=(ls.getD k T.no).t)/\(bs.getD k H.aV).a<(bs.getD j H.aV).a+(bs.getD j H.aV).c/\(bs.getD j H.aV).a<(bs.getD k H.aV).a+(bs.getD k H.aV).c)):=CB.out;have aou:k<ls.length:=by omega
      have abJ:j<ls.length:=by omega
      have tr:=ae bO;have yX:=ae qi;clear eV fY CB qi bO;generalize (bs.getD k H.aV).a=ka at *;generalize (bs.getD k H.aV).c=kc at *;generalize (bs.getD j H.aV).a=ja at *;generalize (bs.getD j H.aV).c=jc at *;generalize (ls.getD k T.no).f=kf at *;generalize (ls.getD k T.no).t=kt at *;generalize (ls.getD j T.no).f=jf at *;generalize (ls.getD j T.no).t=jt at *;rw[<-yX.out] at aK ke ⊢
      go_upto_region 14 with fail
      go_cut [13] from 69 to 137 (fun s wx=>s=.bool (decide (kf<=jt)&&decide (jf<=kt))/\wr.grownBy wx none)
      case first=>
       by_cases v1:kf<=jt
       ·have b1:decide (kf<=jt)=true:=eG v1
        by_cases v2:jf<=kt
        ·have b2:decide (jf<=kt)=true:=eG v2
         go_quiet (fail);go_wp2_with fail
         go_meet
         exact⟨by rw[b1,b2];rfl,bF _ _ _⟩
        ·have b2:decide (jf<=kt)=false:=eD v2
         go_quiet (fail);go_wp2_with fail
         go_meet
         exact⟨by rw[b1,b2];rfl,bF _ _ _⟩
       ·have b1:decide (kf<=jt)=false:=eD v1
        go_quiet (fail);go_wp2_with fail
        go_meet
        exact⟨by rw[b1];rfl,bF _ _ _⟩
      case rest=>
       obtain⟨rfl,gd⟩:=hcut;have e0:=aG gd d0;have e1:=aG gd d1;have e2:=aG gd d2;have e3:=aG gd d3;have j6:=ae (aC tr.out gd);clear gd d0 d1 d2 d3 m0 m1 m2 m3 tr;rw[yX.out] at aK ke
       go_upto_region 15 with fail
       go_cut [14] from 69 to 137 (fun s wx=>s=.bool (decide (ka<ja+jc)&&decide (ja<ka+kc))/\wc.grownBy wx none)
       case first=>
        by_cases v1:ka<ja+jc
        ·have b1:decide (ka<ja+jc)=true:=eG v1
         by_cases v2:ja<ka+kc
         ·have b2:decide (ja<ka+kc)=true:=eG v2
          go_quiet (fail);go_wp2_with fail
          go_meet
          exact⟨by rw[b1,b2];rfl,bF _ _ _⟩
         ·have b2:decide (ja<ka+kc)=false:=eD v2
          go_quiet (fail);go_wp2_with fail
          go_meet
          exact⟨by rw[b1,b2];rfl,bF _ _ _⟩
        ·have b1:decide (ka<ja+jc)=false:=eD v1
         go_quiet (fail);go_wp2_with fail
         go_meet
         exact⟨by rw[b1];rfl,bF _ _ _⟩
       case rest=>
        obtain⟨rfl,JN⟩:=hcut;have oz:=ae (aC j6.out JN);have oq:Hid ((decide (kf<=jt)&&decide (jf<=kt))=false\/(decide (ka<ja+jc)&&decide (ja<ka+kc))=false):=by
         by_cases h1:kf<=jt/\jf<=kt
         ·right
          by_cases h2:ka<ja+jc/\ja<ka+kc
          ·exact aN ⟨h1,h2⟩ JM.out
          ·rw[Bool.and_eq_false_iff,decide_eq_false_iff_not,decide_eq_false_iff_not];omega
         ·left
          rw[Bool.and_eq_false_iff,decide_eq_false_iff_not,decide_eq_false_iff_not];omega
        clear JN e0 e1 e2 e3 j6 JM;generalize (decide (kf<=jt)&&decide (jf<=kt))=b1 at *;generalize (decide (ka<ja+jc)&&decide (ja<ka+kc))=b2 at *;rcases oq.out with rfl|rfl
        ·go_wp2
         go_roundw
         case rel=>exact⟨j+1,by omega,by go_num,oz.out⟩
         case measure=>simp[intOf];omega
        ·cases b1 with
         | false=>
          go_wp2;go_roundw
          case rel=>exact⟨j+1,by omega,by go_num,oz.out⟩
          case measure=>simp[intOf];omega
         | true=>
          go_wp2;go_roundw
          case rel=>exact⟨j+1,by omega,by go_num,oz.out⟩
          case measure=>simp[intOf];omega
     ·obtain rfl:j=k:=by omega
      have cT:=ae bO;clear bO;go_wp2;go_roundw
      case rel=>exact⟨j+1,by omega,by rw[kx.out],by rw[FE.out],by go_num,cT.out⟩
      case measure=>simp[intOf];omega
   ·have v1:decide (a+c > E)=false:=eD kZ
    rw[ak kZ] at kx;clear aF kZ;go_wp2;go_quiet (fail);have g1:=bF wr nq none;have AN:=aG g1 d0;have N5:=aG g1 d1;have JL:=ae (aC bH.out g1);clear g1 d0 d1 bH;generalize wr.drewN nq=wp at *;go_wp2;have iy:=JL;clear AN N5 p0 p1 p2 p3' JL wac;go_loopw[12] (fun i wr=>∃j:Nat,j<=k/\i=.int .i64 j/\w.grownBy wr none) (fun i _=>k-(intOf i).toNat)
    case atStart=>exact⟨0,bK _,rfl,iy.out⟩
    case round=>
     obtain⟨j,hj,rfl,bO⟩:=hrel;by_cases FF:j<k
     ·have ke:j<bs.length:=by omega
      obtain⟨d0,d1⟩:=CA (HB.out.kept bO (by simp)) aK;obtain⟨d2,d3⟩:=CA (HB.out.kept bO (by simp)) ke;have qi:ls.length=bs.length:=jq.out.len;obtain⟨m0,m1,-⟩:=yS (HL.out.kept bO (by simp)) (yW (show k<ls.length by omega));obtain⟨m2,m3,-⟩:=yS (HL.out.kept bO (by simp)) (yW (show j<ls.length by omega));have eV:=jq.out.bG k aK;have fY:=jq.out.bG j ke;have CB:=ae (jq.out.apart k j aK FF);have q1:IntKind.i64.wrap ((bs.getD k H.aV).a+(bs.getD k H.aV).c)=(bs.getD k H.aV).a+(bs.getD k H.aV).c:=by
       have h1:(bs.getD k H.aV).a+(bs.getD k H.aV).c<=100000:=eV.2.2.2;rw[cS];omega
      have q2:IntKind.i64.wrap ((bs.getD j H.aV).a+(bs.getD j H.aV).c)=(bs.getD j H.aV).a+(bs.getD j H.aV).c:=by
       have h1:(bs.getD j H.aV).a+(bs.getD j H.aV).c<=100000:=fY.2.2.2;rw[cS];omega
      have JM:Hid (¬(((ls.getD k T.no).f<=(ls.getD j T.no).t/\(ls.getD j T.no).f<=(ls.getD k T.no).t)/\(bs.getD k H.aV).a<(bs.getD j H.aV).a+(bs.getD j H.aV).c/\(bs.getD j H.aV).a<(bs.getD k H.aV).a+(bs.getD k H.aV).c)):=CB.out;have aou:k<ls.length:=by omega
      have abJ:j<ls.length:=by omega
      have tr:=ae bO;have yX:=ae qi;clear eV fY CB qi bO;generalize (bs.getD k H.aV).a=ka at *;generalize (bs.getD k H.aV).c=kc at *;generalize (bs.getD j H.aV).a=ja at *;generalize (bs.getD j H.aV).c=jc at *;generalize (ls.getD k T.no).f=kf at *;generalize (ls.getD k T.no).t=kt at *;generalize (ls.getD j T.no).f=jf at *;generalize (ls.getD j T.no).t=jt at *;rw[<-yX.out] at aK ke ⊢
      go_upto_region 14 with fail
      go_cut [13] from 69 to 137 (fun s wx=>s=.bool (decide (kf<=jt)&&decide (jf<=kt))/\wr.grownBy wx none)
      case first=>
       by_cases v1:kf<=jt
       ·have b1:decide (kf<=jt)=true:=eG v1
        by_cases v2:jf<=kt
        ·have b2:decide (jf<=kt)=true:=eG v2
         go_quiet (fail);go_wp2_with fail
         go_meet
         exact⟨by rw[b1,b2];rfl,bF _ _ _⟩
        ·have b2:decide (jf<=kt)=false:=eD v2
         go_quiet (fail);go_wp2_with fail
         go_meet
         exact⟨by rw[b1,b2];rfl,bF _ _ _⟩
       ·have b1:decide (kf<=jt)=false:=eD v1
        go_quiet (fail);go_wp2_with fail
        go_meet
        exact⟨by rw[b1];rfl,bF _ _ _⟩
      case rest=>
       obtain⟨rfl,gd⟩:=hcut;have e0:=aG gd d0;have e1:=aG gd d1;have e2:=aG gd d2;have e3:=aG gd d3;have j6:=ae (aC tr.out gd);clear gd d0 d1 d2 d3 m0 m1 m2 m3 tr;rw[yX.out] at aK ke
       go_upto_region 15 with fail
       go_cut [14] from 69 to 137 (fun s wx=>s=.bool (decide (ka<ja+jc)&&decide (ja<ka+kc))/\wc.grownBy wx none)
       case first=>
        by_cases v1:ka<ja+jc
        ·have b1:decide (ka<ja+jc)=true:=eG v1
         by_cases v2:ja<ka+kc
         ·have b2:decide (ja<ka+kc)=true:=eG v2
          go_quiet (fail);go_wp2_with fail
          go_meet
          exact⟨by rw[b1,b2];rfl,bF _ _ _⟩
         ·have b2:decide (ja<ka+kc)=false:=eD v2
          go_quiet (fail);go_wp2_with fail
          go_meet
          exact⟨by rw[b1,b2];rfl,bF _ _ _⟩
        ·have b1:decide (ka<ja+jc)=false:=eD v1
         go_quiet (fail);go_wp2_with fail
         go_meet
         exact⟨by rw[b1];rfl,bF _ _ _⟩
       case rest=>
        obtain⟨rfl,JN⟩:=hcut;have oz:=ae (aC j6.out JN);have oq:Hid ((decide (kf<=jt)&&decide (jf<=kt))=false\/(decide (ka<ja+jc)&&decide (ja<ka+kc))=false):=by
         by_cases h1:kf<=jt/\jf<=kt
         ·right
          by_cases h2:ka<ja+jc/\ja<ka+kc
          ·exact aN ⟨h1,h2⟩ JM.out
          ·rw[Bool.and_eq_false_iff,decide_eq_false_iff_not,decide_eq_false_iff_not];omega
         ·left
          rw[Bool.and_eq_false_iff,decide_eq_false_iff_not,decide_eq_false_iff_not];omega
        clear JN e0 e1 e2 e3 j6 JM;generalize (decide (kf<=jt)&&decide (jf<=kt))=b1 at *;generalize (decide (ka<ja+jc)&&decide (ja<ka+kc))=b2 at *;rcases oq.out with rfl|rfl
        ·go_wp2
         go_roundw
         case rel=>exact⟨j+1,by omega,by go_num,oz.out⟩
         case measure=>simp[intOf];omega
        ·cases b1 with
         | false=>
          go_wp2;go_roundw
          case rel=>exact⟨j+1,by omega,by go_num,oz.out⟩
          case measure=>simp[intOf];omega
         | true=>
          go_wp2;go_roundw
          case rel=>exact⟨j+1,by omega,by go_num,oz.out⟩
          case measure=>simp[intOf];omega
     ·obtain rfl:j=k:=by omega
      have cT:=ae bO;clear bO;go_wp2;go_roundw
      case rel=>exact⟨j+1,by omega,by rw[kx.out],by rw[FE.out],by go_num,cT.out⟩
      case measure=>simp[intOf];omega
  ·obtain rfl:k=bs.length:=by omega
   have bH:=ae aF;clear aF;go_wp2;go_loopw[15] (fun i wr=>∃m:Nat,m<=gS+2/\i=.int .i64 ((m:Int)-1)/\w.grownBy wr none) (fun i _=>gS+2-(intOf i+1).toNat)
   case atStart=>exact⟨0,bK _,rfl,bH.out⟩
   case round=>
    clear bH;obtain⟨m,hm,rfl,xG⟩:=hrel;by_cases abK:m<gS+2
    ·have N6:=ae xG
     have abL:=jq.out.Sv ((m:Int)-1);have abM:=ae abL;obtain⟨tt,FG⟩:∃tt,Hid ((m:Int)-1=tt):=⟨_,rfl⟩;have ht1:tt<=(gS:Int):=by have:=FG.out;omega
     have tu:-1<=tt:=by have:=FG.out;omega
     rw[FG.out] at abM ⊢;clear xG abL abK hm;have cQ:∀k,k<=bs.length->0<=T.tf ls bs tt k/\T.tf ls bs tt k<=512*k:=by
      intro k
      induction k with
      | zero=>intro _;exact⟨Int.le_refl _,by show(0:Int)<=512*((0:Nat):Int);decide⟩
      | succ k ih=>
       intro hk;have h1:=ih (by omega);have h2:=(jq.out.bG k (by omega)).2.1;have h3:=(jq.out.bG k (by omega)).2.2.1;unfold T.tf
       split<;>omega
     have HZ:=ae cQ;clear cQ;go_wp2;go_loopw[16,17] (fun s i wr=>∃k:Nat,k<=bs.length/\s=.int .i64 (T.tf ls bs tt k)/\i=.int .i64 k/\w.grownBy wr none) (fun _ i _=>bs.length-(intOf i).toNat)
     case atStart=>exact⟨0,bK _,rfl,rfl,N6.out⟩
     case round=>
      clear N6;obtain⟨k,rB,rfl,rfl,aF⟩:=hrel;by_cases yY:k<bs.length
      ·obtain⟨d0,d1⟩:=CA (HB.out.kept aF (by simp)) yY
       have qi:ls.length=bs.length:=jq.out.len;obtain⟨m0,m1,-⟩:=yS (HL.out.kept aF (by simp)) (yW (show k<ls.length by omega));have iq:=HZ.out k rB;have eV:=(jq.out.bG k yY).2.1;have fY:=(jq.out.bG k yY).2.2.1;have He:Hid (T.tf ls bs tt (k+1)=if (ls.getD k T.no).f<=tt/\tt<=(ls.getD k T.no).t then T.tf ls bs tt k+(bs.getD k H.aV).c else T.tf ls bs tt k):=rfl;have yX:=ae qi;have bH:=ae aF;clear qi aF;generalize (bs.getD k H.aV).a=ka at *;generalize (bs.getD k H.aV).c=kc at *;generalize (ls.getD k T.no).f=kf at *;generalize (ls.getD k T.no).t=kt at *;generalize T.tf ls bs tt k=nw at *;by_cases v1:kf<=tt
       ·by_cases v2:tt<=kt
        ·rw[ay ⟨v1,v2⟩] at He
         go_wp2;go_roundw
         case rel=>exact⟨k+1,by omega,by rw[He.out],by go_num,bH.out⟩
         case measure=>simp[intOf];omega
        ·rw[ak (fun h=>v2 h.2)] at He
         go_wp2;go_roundw
         case rel=>exact⟨k+1,by omega,by rw[He.out],by go_num,bH.out⟩
         case measure=>simp[intOf];omega
       ·rw[ak (fun h=>v1 h.1)] at He
        go_wp2;go_roundw
        case rel=>exact⟨k+1,by omega,by rw[He.out],by go_num,bH.out⟩
        case measure=>simp[intOf];omega
      ·obtain rfl:k=bs.length:=by omega
       have hnw:=abM.out;have bH:=ae aF;clear aF;generalize T.tf ls bs tt bs.length=nw at *;go_wp2;go_roundw
       case rel=>exact⟨m+1,by have:=FG.out;omega,by rw[<-FG.out];go_num,bH.out⟩
       case measure=>have:=FG.out;simp[intOf];omega
    ·obtain rfl:m=gS+2:=by omega
     have N6:=ae xG;have DI:=jq.out.sum;have hb:(H.gR bs==H.endTo bs bs.length)=true:=by unfold H.gR;simp
     have hE2:H.endTo bs bs.length=H.gR bs:=rfl;have df:¬((((gS+2:Nat):Int)-1)<=(gS:Int)):=by omega
     clear xG abK;rw[hE2];go_wp2;go_ret;exact⟨rfl,N6.out⟩
end Go.Proofs.YtcnhfffgbamonabGreat
