import Derived.Deep.CutRange
import Derived.Test.YtcnhfffgbamonabGreatZ40
set_option maxRecDepth 100000
set_option maxHeartbeats 6400000
namespace Go.Proofs.YtcnhfffgbamonabGreat
open Go.Proofs.Tryz
open Go.RowKit
namespace R
def sx(o:Op)(k:Nat):Bool:=!((iz o.af).getD k (Char.ofNat 32)==(Char.ofNat 119)&&(decide (fq o k<1073741824)||decide (fq o (k+1) < -31)||decide (30<fq o (k+1))))
theorem afL(o:Op):wj o=(List.range (iz o.af).length).all (sx o):=rfl
def tI(g:bX)(o:Op)(k:Nat):Bool:=!(o.ins.length==3&&decide (0<k)&&(pK g (ik o k)).zero != 0)&&!(decide (o.ins.length<3)&&o.af != 4&&(pK g (ik o k)).zero != (pK g o.out).zero)
theorem afM(g:bX)(o:Op):pL g o=(List.range o.ins.length).all (tI g o):=rfl
def tJ(g:bX)(o:Op):Bool:=wj o&&mW o&&pL g o
def Bk(x:Int):Bool:=!(decide (1073741824<x)||decide (x < -1073741824))
theorem afN(t:M.Tn):uF t=(t.data.all Bk&&!(t.af==2&&t.zero != 0)):=rfl
theorem U4(g:bX):xS g=(g.ts.all uF&&g.ag.all (tJ g)):=rfl
theorem Pk{α:Type}{p:α->Bool}{l:List α}{i:Nat}{x:α}(hi:l[i]?=some x)(h:p x=false):l.all p=false:=by
 rw[List.all_eq_false];exact⟨x,bV hi,by simp[h]⟩
theorem Pm{α:Type}{p:α->Bool}{l:List α}(h:∀(i:Nat) x,l[i]?=some x->p x=true):l.all p=true:=by
 rw[jg];intro x hx;obtain⟨i,hi⟩:=mM hx;exact h i x hi
theorem U5{g:bX}{i:Nat}{t:M.Tn}(hi:g.ts[i]?=some t)(h:uF t=false):xS g=false:=by
 rw[U4,Pk hi h];rfl
theorem aue{g:bX}{i:Nat}{o:Op}(hi:g.ag[i]?=some o)(h:tJ g o=false):xS g=false:=by
 rw[U4,Pk hi h];simp
theorem auf{g:bX}(h1:∀(i:Nat) t,g.ts[i]?=some t->uF t=true)(h2:∀(i:Nat) o,g.ag[i]?=some o->tJ g o=true):xS g=true:=by
 rw[U4,Pm h1,Pm h2];rfl
theorem afO{t:M.Tn}{i:Nat}{x:Int}(hi:t.data[i]?=some x)(h:Bk x=false):uF t=false:=by
 rw[afN,Pk hi h];rfl
theorem U6{g:bX}{o:Op}{k:Nat}(hk:k<(iz o.af).length)(h:sx o k=false):tJ g o=false:=by
 unfold tJ;rw[afL,Ku hk h];rfl
theorem aug{g:bX}{o:Op}(h:mW o=false):tJ g o=false:=by
 unfold tJ;rw[h];simp
theorem auh{g:bX}{o:Op}{k:Nat}(hk:k<o.ins.length)(h:tI g o k=false):tJ g o=false:=by
 unfold tJ;rw[afM,Ku hk h];simp
theorem aui{g:bX}{o:Op}(h1:∀k,k<(iz o.af).length->sx o k=true)(h2:mW o=true)(h3:∀k,k<o.ins.length->tI g o k=true):tJ g o=true:=by
 unfold tJ;rw[afL,afM,Kv h1,h2,Kv h3];rfl
theorem auj(k:Int)(h:bT k≠none):∀j,(iz k)[j]?=some (Char.ofNat 119)->j+1<(iz k).length:=by
 rcases Kh k h with rfl|rfl|rfl|rfl|rfl|rfl|rfl|rfl|rfl|rfl
 all_goals
  intro j hj;rcases cF j 8 with h8|h8
  ·rcases(show j=0\/j=1\/j=2\/j=3\/j=4\/j=5\/j=6\/j=7 by omega) with rfl|rfl|rfl|rfl|rfl|rfl|rfl|rfl
   all_goals first|(exact aN hj (by decide))|decide
  ·rw[cX (jK (by decide) h8)] at hj
   exact aN hj (by simp)
end R
theorem auk(b:Nat)(g:R.bX)(w:World)(h:lB w b g)(hw:EC g)(Ph:R.pJ g=true) :
  Calls prog 116 #[.pointer (some ⟨b,0,none⟩)] w fun e w'=>e=.returned (.bool (R.xS g))/\w.grownBy w' none:=by
 have iq:=hw.nt;have j9:=hw.no;have HW:=ae hw;have zo:=ae h;have aul:=ae Ph;obtain⟨a1,c1,a2,c2,a3,c3,hB,hT,hO,hU⟩:=h;have HB:=ae hB;have HT:=ae hT;have HO:=ae hO;clear hB hT hO hU hw Ph;go_enter func116,ntmps116;go_wp2;go_loopw[3] (fun i wr=>∃j:Nat,Hid (j<=g.ts.length)/\i=.int .i64 j/\Hid (∀(m:Nat) t,m<j->g.ts[m]?=some t->R.uF t=true)/\w.grownBy wr none) (fun i _=>g.ts.length-(intOf i).toNat)
 case atStart=>exact⟨0,bK _,rfl,(fun m t hm=>aN hm (wG m)),gL _ _⟩
 case round=>
  as_aux_lemma=>
   obtain⟨j,Hj,rfl,HA,bO⟩:=hrel;have eM:=HB.out.kept bO (by simp);have q0:wr.cell? ⟨b,0,none⟩=some (.slice a1 g.ts.length c1):=eM.cell 0;have cT:=ae bO;by_cases aK:j<g.ts.length
   ·obtain⟨t,ht⟩:∃t,g.ts[j]?=some t:=⟨_,aT aK⟩
    obtain⟨ga,ao,cp,ea,-,-,hI,d0,-,-,-,d4,d5⟩:=(HT.out.Z bO).get j t ht;subst ea;have Ht:=ae ht;have dU:=ae aK;have HI:=ae hI;have yD:=HW.out.dl t (bV ht);clear ht eM bO hI;obtain⟨qr,sg⟩:∃q,Hid (q=wr):=⟨_,rfl⟩;go_wp2;go_loopw[5] (fun i wp=>∃m:Nat,Hid (m<=t.data.length)/\i=.int .i64 m/\Hid (∀(k:Nat) x,k<m->t.data[k]?=some x->R.Bk x=true)/\wp=qr) (fun i _=>t.data.length-(intOf i).toNat)
    case atStart=>exact⟨0,bK _,rfl,(fun m t hm=>aN hm (wG m)),sg.out.symm⟩
    case round=>
     as_aux_lemma=>
      obtain⟨m,Hm,rfl,HD,xB⟩:=hrel;rw[sg.out] at xB;subst xB;by_cases hm:m<t.data.length
      ·obtain⟨x,hx⟩:∃x,t.data[m]?=some x:=⟨_,aT hm⟩
       obtain⟨gd,ed,-,-,dx⟩:=HI.out.get m x hx;subst ed;have Hx:=ae hx;have pO:decide (x > 1073741824)=true/\R.Bk x=false\/(decide (x > 1073741824)=false/\decide (x < -1073741824)=true/\R.Bk x=false)\/(decide (x > 1073741824)=false/\decide (x < -1073741824)=false/\R.Bk x=true):=by
        unfold R.Bk;by_cases h1:x > 1073741824
        ·exact .inl ⟨eG h1,by rw[eG (show 1073741824<x from h1)];rfl⟩
        ·by_cases h2:x < -1073741824
         ·exact .inr (.inl ⟨eD h1,eG h2,by rw[eG h2];simp⟩)
         ·exact .inr (.inr ⟨eD h1,eD h2,by rw[eD h2,eD (show ¬1073741824<x from h1)];rfl⟩)
       clear hx;rcases pO with⟨z1,zb⟩|⟨z1,z2,zb⟩|⟨z1,z2,zb⟩
       ·have HN:=ae (R.U5 Ht.out (R.afO Hx.out zb))
        clear zb;go_wp2;go_ret;exact⟨bq HN.out.symm,cT.out⟩
       ·have HN:=ae (R.U5 Ht.out (R.afO Hx.out zb))
        clear zb;go_wp2;go_ret;exact⟨bq HN.out.symm,cT.out⟩
       ·have D2:Hid (∀(k:Nat) y,k<m+1->t.data[k]?=some y->R.Bk y=true):=fun k y hk hy=>by
         rcases cF k m with h' | h'
         ·exact HD.out k y h' hy
         ·obtain rfl:k=m:=by omega
          rw[Hx.out] at hy;injection hy with hy;subst hy;exact zb
        clear zb;go_wp2;go_roundw
        case rel=>exact⟨m+1,(by unfold Hid;omega),by go_num,D2.out,sg.out.symm⟩
        case measure=>simp[intOf];omega
      ·obtain rfl:m=t.data.length:=by have:=Hm.out;omega
       have HDd:=ae (R.Pm (p:=R.Bk) (l:=t.data) (fun k x hx=>HD.out k x (by
        rcases cF k t.data.length with h' | h'
        ·exact h'
        ·rw[cX h'] at hx;exact aN hx (by simp)) hx))
       have Hs:=ae (R.afN t);rw[HDd.out] at Hs;have mS:Hid (R.uF t=true->∀(m:Nat) t,m<j+1->g.ts[m]?=some t->R.uF t=true):=fun h m t' hm ig=>by
        rcases cF m j with h' | h'
        ·exact HA.out m t' h' ig
        ·obtain rfl:m=j:=by omega
         rw[Ht.out] at ig;injection ig with ig;subst ig;exact h
       have pb:=ae (fun h=>R.U5 (g:=g) Ht.out h)
       cases k2:(t.af==2) with
       | false=>
        have mT:=ae (mS.out (by rw[Hs.out,k2];rfl));go_wp2;go_roundw
        case rel=>exact⟨j+1,(by have:=dU.out;unfold Hid;omega),by go_num,mT.out,cT.out⟩
        case measure=>have:=dU.out;simp[intOf];omega
       | true=>
        cases z0:(t.zero != 0) with
        | true=>
         have HN:=ae (pb.out (by rw[Hs.out,k2,z0];rfl));go_wp2;go_ret;exact⟨bq HN.out.symm,cT.out⟩
        | false=>
         have mT:=ae (mS.out (by rw[Hs.out,k2,z0];rfl));go_wp2;go_roundw
         case rel=>exact⟨j+1,(by have:=dU.out;unfold Hid;omega),by go_num,mT.out,cT.out⟩
         case measure=>have:=dU.out;simp[intOf];omega
   ·obtain rfl:j=g.ts.length:=by have:=Hj.out;omega
    have aun:Hid (∀(m:Nat) t,g.ts[m]?=some t->R.uF t=true):=fun m t ht=>HA.out m t (by
     rcases cF m g.ts.length with h' | h'
     ·exact h'
     ·rw[cX h'] at ht;exact aN ht (by simp)) ht
    clear aK eM bO HA Hj;go_wp2;clear q0;go_loopw[6] (fun i wr=>∃j:Nat,Hid (j<=g.ag.length)/\i=.int .i64 j/\Hid (∀(m:Nat) o,m<j->g.ag[m]?=some o->R.tJ g o=true)/\w.grownBy wr none) (fun i _=>g.ag.length-(intOf i).toNat)
    case atStart=>exact⟨0,bK _,rfl,(fun m t hm=>aN hm (wG m)),cT.out⟩
    case round=>
     as_aux_lemma=>
      clear cT;obtain⟨i,Hi,rfl,HA,bO⟩:=hrel;have eM:=HB.out.kept bO (by simp);have q0:wr.cell? ⟨b,0,none⟩=some (.slice a1 g.ts.length c1):=eM.cell 0;have q1:wr.cell? ⟨b,1,none⟩=some (.slice a2 g.ag.length c2):=eM.cell 1;have cT:=ae bO;by_cases aK:i<g.ag.length
      ·obtain⟨o,ho⟩:∃o,g.ag[i]?=some o:=⟨_,aT aK⟩
       obtain⟨go,eo,-,Dd⟩:=(HO.out.Z bO).bN i o ho;subst eo;obtain⟨ai,ci,an,cn,k0,k1,k2,k3,hI,hN⟩:=Dd;have Ho:=ae ho;have dU:=ae aK;have HI:=ae hI;have KY:=ae hN;have Bb:=ae (HW.out.os o (bV ho));have pI:=(R.Ki o.af Bb.out.af).2.1;have fO:=Bb.out.nul;have Kk:(S9 ((R.iz o.af).map R.pN)).size=(R.iz o.af).length:=by rw[FN,jh]
       have mS:Hid (R.tJ g o=true->∀(m:Nat) o,m<i+1->g.ag[m]?=some o->R.tJ g o=true):=fun h m o' hm iK=>by
        rcases cF m i with h' | h'
        ·exact HA.out m o' h' iK
        ·obtain rfl:m=i:=by omega
         rw[Ho.out] at iK;injection iK with iK;subst iK;exact h
       have pb:=ae (fun h=>R.aue (g:=g) Ho.out h);obtain⟨zy,Pj⟩:=R.U2 aul.out ho;obtain⟨z,tz,lE,hz⟩:=Pg Bb.out.OD zy;obtain⟨ga,-,-,ea,-,-,-,-,-,-,-,KZ,-⟩:=(HT.out.Z bO).get z tz hz;subst ea;have vV:(z:Int)<(g.ts.length:Int):=by rw[<-lE];exact zy
       have afP:=ae Pj;have zB:=ae (show R.pK g o.out=tz by rw[lE];exact R.nP hz);rw[lE] at k2;have Hk:=ae Bb.out.af;have fC:(o.ins.length:Int)<=3:=by rw[Bb.out.inl];exact(R.Ki o.af Bb.out.af).1.2
       clear ho eM bO hI hN HA zy Pj lE hz;go_wp2_with fail;refine(acS o.af wr).mono ?_;rintro e w2⟨rfl,rfl⟩;obtain⟨cs,ox⟩:∃cs,Hid (R.iz o.af=cs):=⟨_,rfl⟩;rw[ox.out] at pI fO Kk ⊢;have EO:=ae fO;rw[fO] at k3 KY;clear fO;obtain⟨qr,sg⟩:∃q,Hid (q=w2):=⟨_,rfl⟩;go_wp2;go_loopw[10] (fun v wp=>∃m:Nat,Hid (m<=cs.length)/\v=.int .i64 m/\Hid (∀k,k<m->R.sx o k=true)/\wp=qr) (fun v _=>cs.length-(intOf v).toNat)
       case atStart=>exact⟨0,bK _,rfl,(fun m hm=>aN hm (wG m)),sg.out.symm⟩
       case round=>
        as_aux_lemma=>
         obtain⟨m,Hm,rfl,HS,xB⟩:=hrel;rw[sg.out] at xB;subst xB;by_cases hm:m<cs.length
         ·have yc:=ae hm
          obtain⟨c,hc⟩:∃c,cs[m]?=some c:=⟨_,aT hm⟩;have Tw:=(R.Ki o.af Hk.out).2.2 c (by rw[ox.out];exact bV hc);have xT:m<(S9 (cs.map R.pN)).size:=by rw[Kk];exact hm
          have Hb:=ae (Ol (cs.map R.pN) m xT (R.pN c) (by rw[dY,hc];rfl));have jq:=ae (show R.sx o m=!(c==(Char.ofNat 119)&&(decide (R.fq o m<1073741824)||decide (R.fq o (m+1) < -31)||decide (30<R.fq o (m+1)))) by unfold R.sx;rw[ox.out,nU,hc];rfl);have Hc:=ae hc;clear hc;rcases Tw with rfl|rfl|rfl|rfl
          ·have hb:((S9 (cs.map R.pN))[m]'xT).toNat=117:=by rw[Hb.out];rfl
           have hZ:Hid (∀k,k<m+1->R.sx o k=true):=fun k hk=>by
            rcases cF k m with h' | h'
            ·exact HS.out k h'
            ·obtain rfl:k=m:=by omega
             rw[jq.out];rfl
           go_wp2;go_roundw
           case rel=>exact⟨m+1,(by have:=yc.out;unfold Hid;omega),by go_num,hZ.out,sg.out.symm⟩
           case measure=>have:=yc.out;simp[intOf];omega
          ·have hb:((S9 (cs.map R.pN))[m]'xT).toNat=115:=by rw[Hb.out];rfl
           have hZ:Hid (∀k,k<m+1->R.sx o k=true):=fun k hk=>by
            rcases cF k m with h' | h'
            ·exact HS.out k h'
            ·obtain rfl:k=m:=by omega
             rw[jq.out];rfl
           go_wp2;go_roundw
           case rel=>exact⟨m+1,(by have:=yc.out;unfold Hid;omega),by go_num,hZ.out,sg.out.symm⟩
           case measure=>have:=yc.out;simp[intOf];omega
          ·have hb:((S9 (cs.map R.pN))[m]'xT).toNat=98:=by rw[Hb.out];rfl
           have hZ:Hid (∀k,k<m+1->R.sx o k=true):=fun k hk=>by
            rcases cF k m with h' | h'
            ·exact HS.out k h'
            ·obtain rfl:k=m:=by omega
             rw[jq.out];rfl
           go_wp2;go_roundw
           case rel=>exact⟨m+1,(by have:=yc.out;unfold Hid;omega),by go_num,hZ.out,sg.out.symm⟩
           case measure=>have:=yc.out;simp[intOf];omega
          ·have hb:((S9 (cs.map R.pN))[m]'xT).toNat=119:=by rw[Hb.out];rfl
           have hnx:m+1<cs.length:=by have e:=R.auj o.af Hk.out m (by rw[ox.out];exact Hc.out);rw[ox.out] at e;exact e
           obtain⟨x,hx⟩:∃x,o.cO[m]?=some x:=⟨_,aT (by have:=EO.out;omega)⟩;obtain⟨y,hy⟩:∃y,o.cO[m+1]?=some y:=⟨_,aT (by have:=EO.out;omega)⟩;obtain⟨gn,en,-,-,dx⟩:=KY.out.get m x hx;subst en;obtain⟨_,en,-,-,dy⟩:=KY.out.get (m+1) y hy;injection en with en;injection en with en _ _;subst en;have xx:=ae (show R.sx o m=!(decide (x<1073741824)||decide (y < -31)||decide (30<y)) by
            rw[jq.out];unfold R.fq;rw[nU,nU,hx,hy];rfl)
           have hnm:(m:Int)+1<(cs.length:Int):=by omega
           have ayf:(m:Int)<(cs.length:Int):=by omega
           have Hnx:=ae hnx;clear hx hy hnx;have pO:(decide (x<1073741824)=true/\R.sx o m=false)\/(decide (x<1073741824)=false/\decide (y < -31)=true/\R.sx o m=false)\/(decide (x<1073741824)=false/\decide (y < -31)=false/\decide (y > 30)=true/\R.sx o m=false)\/(decide (x<1073741824)=false/\decide (y < -31)=false/\decide (y > 30)=false/\R.sx o m=true):=by
            rw[xx.out];by_cases h1:x<1073741824
            ·exact .inl ⟨eG h1,by rw[eG h1];rfl⟩
            ·by_cases h2:y < -31
             ·exact .inr (.inl ⟨eD h1,eG h2,by rw[eG h2];simp⟩)
             ·by_cases h3:y > 30
              ·exact .inr (.inr (.inl ⟨eD h1,eD h2,eG h3,by rw[eG (show 30<y from h3)];simp⟩))
              ·exact .inr (.inr (.inr ⟨eD h1,eD h2,eD h3,by rw[eD h1,eD h2,eD (show ¬30<y from h3)];rfl⟩))
           rcases pO with⟨z1,zb⟩|⟨z1,z2,zb⟩|⟨z1,z2,z3,zb⟩|⟨z1,z2,z3,zb⟩
           ·have HN:=ae (pb.out (R.U6 (k:=m) (by rw[ox.out];exact yc.out) zb))
            clear zb;go_wp2;go_ret;exact⟨bq HN.out.symm,cT.out⟩
           ·have HN:=ae (pb.out (R.U6 (k:=m) (by rw[ox.out];exact yc.out) zb))
            clear zb;go_wp2;go_ret;exact⟨bq HN.out.symm,cT.out⟩
           ·have HN:=ae (pb.out (R.U6 (k:=m) (by rw[ox.out];exact yc.out) zb))
            clear zb;go_wp2;go_ret;exact⟨bq HN.out.symm,cT.out⟩
           ·have hZ:Hid (∀k,k<m+1->R.sx o k=true):=fun k hk=>by
             rcases cF k m with h' | h'
             ·exact HS.out k h'
             ·obtain rfl:k=m:=by omega
              exact zb
            clear zb;go_wp2;go_roundw
            case rel=>exact⟨m+1,(by have:=yc.out;unfold Hid;omega),by go_num,hZ.out,sg.out.symm⟩
            case measure=>have:=yc.out;simp[intOf];omega
         ·obtain rfl:m=cs.length:=by have:=Hm.out;omega
          have auo:=ae HS.out;clear hm Hm HS;have zn:(¬0<cs.length/\R.mW o=true)\/(0<cs.length/\(o.af != 8)=false/\R.mW o=true)\/(0<cs.length/\(o.af != 8)=true/\∃p:Nat,cs.length=p+2/\R.mW o=!decide (R.fq o (p+1)<R.fq o p)):=by
           rw[<-EO.out];by_cases h0:o.cO.length=0
           ·exact .inl ⟨by omega,by unfold R.mW;rw[h0];rfl⟩
           ·by_cases h8:o.af=8
            ·exact .inr (.inl ⟨by omega,by simp[h8],by unfold R.mW;rw[h8];simp⟩)
            ·have h2:2<=o.cO.length:=by
              rw[EO.out,<-ox.out];rcases R.Kh o.af Hk.out with hk|hk|hk|hk|hk|hk|hk|hk|hk|hk
              all_goals first
               | (rw[hk];decide)
               | exact aN hk h8
               | (exfalso;apply h0;rw[EO.out,<-ox.out,hk];rfl)
             refine .inr (.inr ⟨by omega,by simp[h8],o.cO.length-2,by omega,?_⟩);unfold R.mW;rw[eG (show 0<o.cO.length by omega),show o.cO.length-2+1=o.cO.length-1 by omega];have:(o.af != 8)=true:=by simp[h8]
             rw[this];rfl
          have ayh:(cs.length:Int)<=8:=by omega
          go_upto_region 23 with fail
          go_cut [166] from 69 to 236 (fun s wx=>s=.bool (!R.mW o)/\wr.grownBy wx none)
          case first=>
           as_aux_lemma=>
            rcases zn with⟨v1,mb⟩|⟨v1,v2,mb⟩|⟨v1,v2,p,hp,mb⟩
            ·have K8:=ae mb
             clear mb;go_quiet (fail);go_wp2_with fail
             go_meet
             exact⟨by rw[K8.out];rfl,bF _ _ _⟩
            ·have K8:=ae mb
             clear mb;go_quiet (fail);go_wp2_with fail
             go_meet
             exact⟨by rw[K8.out];rfl,bF _ _ _⟩
            ·obtain⟨x,hx⟩:∃x,o.cO[p]?=some x:=⟨_,aT (by have:=EO.out;omega)⟩
             obtain⟨y,hy⟩:∃y,o.cO[p+1]?=some y:=⟨_,aT (by have:=EO.out;omega)⟩;obtain⟨gn,en,-,-,dx⟩:=KY.out.get p x hx;subst en;obtain⟨_,en,-,-,dy⟩:=KY.out.get (p+1) y hy;injection en with en;injection en with en _ _;subst en;have e1:IntKind.i64.wrap ((cs.length:Int)-2)=(p:Int):=by rw[cS];omega
             have e2:IntKind.i64.wrap ((cs.length:Int)-1)=((p+1:Nat):Int):=by rw[cS];omega
             have i1:(p:Int)<(cs.length:Int):=by omega
             have i2:((p+1:Nat):Int)<(cs.length:Int):=by omega
             have Hs2:=ae (show R.mW o=!decide (y<x) by rw[mb];unfold R.fq;rw[nU,nU,hx,hy];rfl);clear hx hy mb hp;by_cases AE:y<x
             ·have v3:decide (x > y)=true:=eG AE
              have U7:=ae AE;clear AE;go_quiet (fail);go_wp2_with fail
              go_meet
              exact⟨by rw[Hs2.out,eG U7.out];rfl,bF _ _ _⟩
             ·have v3:decide (x > y)=false:=eD AE
              have U7:=ae AE;clear AE;go_quiet (fail);go_wp2_with fail
              go_meet
              exact⟨by rw[Hs2.out,eD (show ¬y<x by have:=U7.out;omega)];rfl,bF _ _ _⟩
          case rest=>
           as_aux_lemma=>
            obtain⟨rfl,gd⟩:=hcut;clear zn
            cases mb:R.mW o with
            | false=>
             have HN:=ae (pb.out (R.aug mb));have j6:=ae (aC cT.out gd);clear gd q0 q1 k0 k1 k2 k3 KZ;go_wp2;go_ret;exact⟨bq HN.out.symm,j6.out⟩
            | true=>
             rw[show(!true)=false from rfl];have K8:=ae mb;clear mb;have j6:=ae (aC cT.out gd);have U8:=ae (nN gd q0);have Hk1:=ae (nN gd k1);have Hk2:=ae (nN gd k2);have Hk0:=ae (nN gd k0);have Hdz:=ae (nN gd KZ);have sV:=ae (HI.out.Z gd);have Ck:=ae (HT.out.Z j6.out);clear gd q0 k0 k1 k2 k3 KZ cT q1;have q0:=U8.out;have k2:=Hk2.out;have KZ:=Hdz.out;go_wp2;go_quiet (fail);have oz:=ae (aC j6.out (bF wc nq none));have ge:=bF wc nq none;have aup:=ae (nN ge U8.out);have afW:=ae (nN ge Hk1.out);have auq:=ae (nN ge Hk0.out);have HIe:=ae (sV.out.Z ge);have HTe:=ae (Ck.out.Z ge);clear ge q0 k2 KZ j6 U8 Hk1 Hk2 Hk0 Hdz sV Ck;generalize wc.drewN nq=we at *;have k1:=afW.out;go_wp2;clear k1;go_loopw[13] (fun v wr=>∃k:Nat,Hid (k<=o.ins.length)/\v=.int .i64 k/\Hid (∀m,m<k->R.tI g o m=true)/\we.grownBy wr none) (fun v _=>o.ins.length-(intOf v).toNat)
             case atStart=>exact⟨0,bK _,rfl,(fun t ht=>aN ht (wG t)),gL _ _⟩
             case round=>
              as_aux_lemma=>
               obtain⟨k,Hk',rfl,HZ,aF⟩:=hrel;have k1:=nN aF afW.out;have k0:=nN aF auq.out;have q0:=nN aF aup.out;have bH:=ae (aC oz.out aF);have jH:=ae aF;by_cases qH:k<o.ins.length
               ·obtain⟨x,hx⟩:∃x,o.ins[k]?=some x:=⟨_,aT qH⟩
                obtain⟨gi,ei,-,-,dx⟩:=(HIe.out.Z aF).get k x hx;subst ei;obtain⟨tn,t,rfl,ht⟩:=Pg (g:=g) (Bb.out.ins x (bV hx)).1 (afP.out k x hx);obtain⟨_,-,-,et,-,-,-,-,-,-,-,dt4,-⟩:=(HTe.out.Z aF).get tn t ht;injection et with et;injection et with et _ _;subst et;have xL:(tn:Int)<(g.ts.length:Int):=afP.out k _ hx;have HX:=ae (show R.tI g o k=(!(o.ins.length==3&&decide (0<k)&&t.zero != 0)&&!(decide (o.ins.length<3)&&o.af != 4&&t.zero != tz.zero)) by
                 unfold R.tI R.ik;rw[zB.out,nU,hx];show(!(o.ins.length==3&&decide (0<k)&&(R.pK g (tn:Int)).zero != 0)&&!(decide (o.ins.length<3)&&o.af != 4&&(R.pK g (tn:Int)).zero != tz.zero))=_;rw[R.nP ht])
                have lT:=ae qH;have mY:Hid (R.tI g o k=true->∀m,m<k+1->R.tI g o m=true):=fun h m hm=>by
                 rcases cF m k with h' | h'
                 ·exact HZ.out m h'
                 ·obtain rfl:m=k:=by omega
                  exact h
                have Di:=ae (fun h=>pb.out (R.auh (k:=k) lT.out h));clear hx ht aF HZ;have pO:(o.ins.length=3/\k=0/\R.tI g o k=true)\/(o.ins.length=3/\0<k/\(t.zero != 0)=true/\R.tI g o k=false)\/(o.ins.length=3/\0<k/\(t.zero != 0)=false/\R.tI g o k=true) \/
                  (o.ins.length<3/\(o.af != 4)=false/\R.tI g o k=true)\/(o.ins.length<3/\(o.af != 4)=true/\(t.zero != tz.zero)=false/\R.tI g o k=true)\/(o.ins.length<3/\(o.af != 4)=true/\(t.zero != tz.zero)=true/\R.tI g o k=false):=by
                 rw[HX.out];by_cases h3:o.ins.length=3
                 ·have n3:decide (o.ins.length<3)=false:=eD (by omega)
                  have m3:(o.ins.length==3)=true:=by simp[h3]
                  by_cases rE:0<k
                  ·cases cQ:(t.zero != 0)
                   ·exact .inr (.inr (.inl ⟨h3,rE,rfl,by rw[n3];simp⟩))
                   ·exact .inr (.inl ⟨h3,rE,rfl,by rw[m3,eG rE];rfl⟩)
                  ·exact .inl ⟨h3,by omega,by rw[n3,eD rE];simp⟩
                 ·have n3:decide (o.ins.length<3)=true:=eG (by omega)
                  have m3:(o.ins.length==3)=false:=by simp[h3]
                  have l3:o.ins.length<3:=by omega
                  cases h4:(o.af != 4)
                  ·exact .inr (.inr (.inr (.inl ⟨l3,rfl,by rw[m3];simp⟩)))
                  ·cases h5:(t.zero != tz.zero)
                   ·exact .inr (.inr (.inr (.inr (.inl ⟨l3,rfl,rfl,by rw[m3];simp⟩))))
                   ·exact .inr (.inr (.inr (.inr (.inr ⟨l3,rfl,rfl,by rw[m3,n3];simp⟩))))
                have Hor:=ae pO;clear pO;have DA:(k:Int)<3:=by have:=lT.out;omega
                have auv:k<3:=by have:=lT.out;omega
                go_wp2;go_quiet (fail);have Cl:=ae (aC bH.out (bF wr nq none));have Po:=ae (aC jH.out (bF wr nq none));have gf:=bF wr nq none;have dt:=nN gf dt4;have Gx:=nN gf k1;have kk0:=nN gf k0;clear gf dt4 k1 k0 q0 dx bH jH;generalize wr.drewN nq=wf at *;have wk:IntKind.i64.wrap ((k:Int)+1)=((k+1:Nat):Int):=by rw[cS];omega
                clear DA auv;rcases Hor.out with⟨hl,rE,qx⟩|⟨hl,v2,v3,qx⟩|⟨hl,v2,v3,qx⟩|⟨hl,v3,qx⟩|⟨hl,v3,v4,qx⟩|⟨hl,v3,v4,qx⟩
                ·subst rE
                 rw[hl] at Gx;have kg:decide (((0:Nat):Int) > 0)=false:=by decide
                 have Hl:=ae hl;clear hl;have mU:=ae (mY.out qx);clear mY Di HX qx;go_wp2;go_roundw
                 case rel=>exact⟨0+1,(by have:=lT.out;unfold Hid;omega),by go_num,mU.out,Po.out⟩
                 case measure=>have:=lT.out;simp[intOf];omega
                ·rw[hl] at Gx
                 have kg:decide ((k:Int) > 0)=true:=eG (by omega);have Hl:=ae hl;clear hl;have HN:=ae (Di.out qx);clear mY Di HX qx;go_wp2;go_ret;exact⟨bq HN.out.symm,Cl.out⟩
                ·rw[hl] at Gx
                 have kg:decide ((k:Int) > 0)=true:=eG (by omega);have Hl:=ae hl;clear hl;have mU:=ae (mY.out qx);clear mY Di HX qx;go_wp2;go_roundw
                 case rel=>exact⟨k+1,(by have:=lT.out;unfold Hid;omega),by go_num,mU.out,Po.out⟩
                 case measure=>have:=lT.out;simp[intOf];omega
                ·have K9:o.ins.length=1\/o.ins.length=2:=by have:=lT.out;omega
                 clear hl;rcases K9 with hl|hl
                 all_goals
                  rw[hl] at Gx;have Hl:=ae hl;clear hl;have mU:=ae (mY.out qx);clear mY Di HX qx;go_wp2;go_roundw
                  case rel=>exact⟨k+1,(by have:=lT.out;unfold Hid;omega),by go_num,mU.out,Po.out⟩
                  case measure=>have:=lT.out;simp[intOf];omega
                ·have K9:o.ins.length=1\/o.ins.length=2:=by have:=lT.out;omega
                 clear hl;rcases K9 with hl|hl
                 all_goals
                  rw[hl] at Gx;have Hl:=ae hl;clear hl;have mU:=ae (mY.out qx);clear mY Di HX qx;go_wp2;go_roundw
                  case rel=>exact⟨k+1,(by have:=lT.out;unfold Hid;omega),by go_num,mU.out,Po.out⟩
                  case measure=>have:=lT.out;simp[intOf];omega
                ·have K9:o.ins.length=1\/o.ins.length=2:=by have:=lT.out;omega
                 clear hl;rcases K9 with hl|hl
                 all_goals
                  rw[hl] at Gx;have Hl:=ae hl;clear hl;have HN:=ae (Di.out qx);clear mY Di HX qx;go_wp2;go_ret;exact⟨bq HN.out.symm,Cl.out⟩
               ·obtain rfl:k=o.ins.length:=by have:=Hk'.out;omega
                have mT:=ae (mS.out (R.aui (by rw[ox.out];exact auo.out) K8.out HZ.out));clear qH aF;go_wp2;go_roundw
                case rel=>exact⟨i+1,(by have:=dU.out;unfold Hid;omega),by go_num,mT.out,bH.out⟩
                case measure=>have:=dU.out;simp[intOf];omega
      ·obtain rfl:i=g.ag.length:=by have:=Hi.out;omega
       have HN:=ae (R.auf aun.out (fun m o ho=>HA.out m o (by
        rcases cF m g.ag.length with h' | h'
        ·exact h'
        ·rw[cX h'] at ho;exact aN ho (by simp)) ho))
       clear aK eM bO;go_wp2;go_ret;exact⟨bq HN.out.symm,cT.out⟩
end Go.Proofs.YtcnhfffgbamonabGreat
