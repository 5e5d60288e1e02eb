import Derived.Deep.CutRange
import Derived.Test.YtcnhfffgbamonaaGreatZ40
set_option maxRecDepth 100000
set_option maxHeartbeats 6400000
namespace Go.Proofs.YtcnhfffgbamonaaGreat
open Go.Proofs.Tryz
open RowKit
namespace R
def sI(o:Op)(k:Nat):Bool:=!((iz o.af).getD k (Char.ofNat 32)==(Char.ofNat 119)&&(decide (fy o k<1073741824)||decide (fy o (k+1) < -31)||decide (30<fy o (k+1))))
theorem agD(o:Op):wO o=(List.range (iz o.af).length).all (sI o):=rfl
def tV(g:bX)(o:Op)(k:Nat):Bool:=!(o.ins.length==3&&decide (0<k)&&(pV g (ik o k)).zero !=0)&&!(decide (o.ins.length<3)&&o.af !=4&&(pV g (ik o k)).zero !=(pV g o.out).zero)
theorem agE(g:bX)(o:Op):pW g o=(List.range o.ins.length).all (tV g o):=rfl
def tW(g:bX)(o:Op):Bool:=wO o&&m6 o&&pW g o
def BD(x:Int):Bool:=!(decide (1073741824<x)||decide (x < -1073741824))
theorem agF(t:M.Tn):uR t=(t.data.all BD&&!(t.af==2&&t.zero !=0)):=rfl
theorem VC(g:bX):yh g=(g.ts.all uR&&g.ag.all (tW g)):=rfl
theorem PS{α:Type}{p:α->Bool}{l:List α}{i:Nat}{x:α}(hi:l[i]?=some x)(h:p x=false):l.all p=false:=by
 rw[List.all_eq_false];exact⟨x,bU hi,by simp[h]⟩
theorem PT{α:Type}{p:α->Bool}{l:List α}(h:∀(i:Nat) x,l[i]?=some x->p x=true):l.all p=true:=by
 rw[jn];intro x hx;obtain⟨i,hi⟩:=mQ hx;exact h i x hi
theorem VD{g:bX}{i:Nat}{t:M.Tn}(hi:g.ts[i]?=some t)(h:uR t=false):yh g=false:=by
 rw[VC,PS hi h];rfl
theorem avh{g:bX}{i:Nat}{o:Op}(hi:g.ag[i]?=some o)(h:tW g o=false):yh g=false:=by
 rw[VC,PS hi h];simp
theorem avi{g:bX}(h1:∀(i:Nat) t,g.ts[i]?=some t->uR t=true)(h2:∀(i:Nat) o,g.ag[i]?=some o->tW g o=true):yh g=true:=by
 rw[VC,PT h1,PT h2];rfl
theorem agG{t:M.Tn}{i:Nat}{x:Int}(hi:t.data[i]?=some x)(h:BD x=false):uR t=false:=by
 rw[agF,PS hi h];rfl
theorem VE{g:bX}{o:Op}{k:Nat}(hk:k<(iz o.af).length)(h:sI o k=false):tW g o=false:=by
 unfold tW;rw[agD,KU hk h];rfl
theorem avj{g:bX}{o:Op}(h:m6 o=false):tW g o=false:=by
 unfold tW;rw[h];simp
theorem avk{g:bX}{o:Op}{k:Nat}(hk:k<o.ins.length)(h:tV g o k=false):tW g o=false:=by
 unfold tW;rw[agE,KU hk h];simp
theorem avl{g:bX}{o:Op}(h1:∀k,k<(iz o.af).length->sI o k=true)(h2:m6 o=true)(h3:∀k,k<o.ins.length->tV g o k=true):tW g o=true:=by
 unfold tW;rw[agD,agE,KV h1,h2,KV h3];rfl
theorem avm(k:Int)(h:bT k≠none):∀j,(iz k)[j]?=some (Char.ofNat 119)->j+1<(iz k).length:=by
 rcases KJ k h with rfl|rfl|rfl|rfl|rfl|rfl|rfl|rfl|rfl|rfl
 all_goals
  intro j hj;rcases cE j 8 with h8|h8
  ·rcases(show j=0\/j=1\/j=2\/j=3\/j=4\/j=5\/j=6\/j=7 by omega) with rfl|rfl|rfl|rfl|rfl|rfl|rfl|rfl
   all_goals first|(exact aN hj (by decide))|decide
  ·rw[db (jN (by decide) h8)] at hj
   exact aN hj (by simp)
end R
theorem avn(b:Nat)(g:R.bX)(w:World)(h:lF w b g)(hw:EX g)(PQ:R.pT g=true):
 Calls prog 73 #[.pointer (some ⟨b,0,none⟩)] w fun e w'=>e=.returned (.bool (R.yh g))/\w.grownBy w' none:=by
 have iq:=hw.nt;have kl:=hw.no;have HW:=ae hw;have zM:=ae h;have avo:=ae PQ;obtain⟨a1,c1,a2,c2,a3,c3,hB,hT,hO,hU⟩:=h;have HB:=ae hB;have HT:=ae hT;have HO:=ae hO;clear hB hT hO hU hw PQ;go_enter func73,ntmps73;go_wp2;go_loopw[3] (fun i wr=>∃j:Nat,Hid (j<=g.ts.length)/\i=.int .i64 j/\Hid (∀(m:Nat) t,m<j->g.ts[m]?=some t->R.uR t=true)/\w.grownBy wr none) (fun i _=>g.ts.length-(intOf i).toNat)
 case atStart=>exact⟨0,bK _,rfl,(fun m t hm=>aN hm (wT m)),fZ _ _⟩
 case round=>
  as_aux_lemma=>
   obtain⟨j,Hj,rfl,HA,bO⟩:=hrel;have eP:=HB.out.kept bO (by simp);have q0:wr.cell? ⟨b,0,none⟩=some (.slice a1 g.ts.length c1):=eP.cell 0;have cV:=ae bO;by_cases aJ:j<g.ts.length
   ·obtain⟨t,ht⟩:∃t,g.ts[j]?=some t:=⟨_,aS aJ⟩
    obtain⟨ga,ao,cp,ea,-,-,hI,d0,-,-,-,d4,d5⟩:=(HT.out.Z bO).get j t ht;subst ea;have Ht:=ae ht;have dW:=ae aJ;have HI:=ae hI;have yW:=HW.out.dl t (bU ht);clear ht eP bO hI;obtain⟨qr,sD⟩:∃q,Hid (q=wr):=⟨_,rfl⟩;go_wp2;go_loopw[5] (fun i wp=>∃m:Nat,Hid (m<=t.data.length)/\i=.int .i64 m/\Hid (∀(k:Nat) x,k<m->t.data[k]?=some x->R.BD x=true)/\wp=qr) (fun i _=>t.data.length-(intOf i).toNat)
    case atStart=>exact⟨0,bK _,rfl,(fun m t hm=>aN hm (wT m)),sD.out.symm⟩
    case round=>
     as_aux_lemma=>
      obtain⟨m,Hm,rfl,HD,xR⟩:=hrel;rw[sD.out] at xR;subst xR;by_cases hm:m<t.data.length
      ·obtain⟨x,hx⟩:∃x,t.data[m]?=some x:=⟨_,aS hm⟩
       obtain⟨gd,ed,-,-,dx⟩:=HI.out.get m x hx;subst ed;have Hx:=ae hx;have pY:decide (x > 1073741824)=true/\R.BD x=false\/(decide (x > 1073741824)=false/\decide (x < -1073741824)=true/\R.BD x=false)\/(decide (x > 1073741824)=false/\decide (x < -1073741824)=false/\R.BD x=true):=by
        unfold R.BD;by_cases h1:x > 1073741824
        ·exact .inl ⟨eG h1,by rw[eG (show 1073741824<x from h1)];rfl⟩
        ·by_cases h2:x < -1073741824
         ·exact .inr (.inl ⟨eE h1,eG h2,by rw[eG h2];simp⟩)
         ·exact .inr (.inr ⟨eE h1,eE h2,by rw[eE h2,eE (show ¬1073741824<x from h1)];rfl⟩)
       clear hx;rcases pY with⟨z1,zb⟩|⟨z1,z2,zb⟩|⟨z1,z2,zb⟩
       ·have HN:=ae (R.VD Ht.out (R.agG Hx.out zb))
        clear zb;go_wp2;go_ret;exact⟨bB HN.out.symm,cV.out⟩
       ·have HN:=ae (R.VD Ht.out (R.agG Hx.out zb))
        clear zb;go_wp2;go_ret;exact⟨bB HN.out.symm,cV.out⟩
       ·have Ek:Hid (∀(k:Nat) y,k<m+1->t.data[k]?=some y->R.BD y=true):=fun k y hk hy=>by
         rcases cE k m with h' |h'
         ·exact HD.out k y h' hy
         ·obtain rfl:k=m:=by omega
          rw[Hx.out] at hy;injection hy with hy;subst hy;exact zb
        clear zb;go_wp2;go_roundw
        case rel=>exact⟨m+1,(by unfold Hid;omega),by go_num,Ek.out,sD.out.symm⟩
        case measure=>simp[intOf];omega
      ·obtain rfl:m=t.data.length:=by have:=Hm.out;omega
       have HDd:=ae (R.PT (p:=R.BD) (l:=t.data) (fun k x hx=>HD.out k x (by
        rcases cE k t.data.length with h' |h'
        ·exact h'
        ·rw[db h'] at hx;exact aN hx (by simp)) hx))
       have Hs:=ae (R.agF t);rw[HDd.out] at Hs;have mW:Hid (R.uR t=true->∀(m:Nat) t,m<j+1->g.ts[m]?=some t->R.uR t=true):=fun h m t' hm ij=>by
        rcases cE m j with h' |h'
        ·exact HA.out m t' h' ij
        ·obtain rfl:m=j:=by omega
         rw[Ht.out] at ij;injection ij with ij;subst ij;exact h
       have po:=ae (fun h=>R.VD (g:=g) Ht.out h)
       cases k2:(t.af==2) with
       |false=>
        have mX:=ae (mW.out (by rw[Hs.out,k2];rfl));go_wp2;go_roundw
        case rel=>exact⟨j+1,(by have:=dW.out;unfold Hid;omega),by go_num,mX.out,cV.out⟩
        case measure=>have:=dW.out;simp[intOf];omega
       |true=>
        cases z0:(t.zero !=0) with
        |true=>
         have HN:=ae (po.out (by rw[Hs.out,k2,z0];rfl));go_wp2;go_ret;exact⟨bB HN.out.symm,cV.out⟩
        |false=>
         have mX:=ae (mW.out (by rw[Hs.out,k2,z0];rfl));go_wp2;go_roundw
         case rel=>exact⟨j+1,(by have:=dW.out;unfold Hid;omega),by go_num,mX.out,cV.out⟩
         case measure=>have:=dW.out;simp[intOf];omega
   ·obtain rfl:j=g.ts.length:=by have:=Hj.out;omega
    have avq:Hid (∀(m:Nat) t,g.ts[m]?=some t->R.uR t=true):=fun m t ht=>HA.out m t (by
     rcases cE m g.ts.length with h' |h'
     ·exact h'
     ·rw[db h'] at ht;exact aN ht (by simp)) ht
    clear aJ eP bO HA Hj;go_wp2;clear q0;go_loopw[6] (fun i wr=>∃j:Nat,Hid (j<=g.ag.length)/\i=.int .i64 j/\Hid (∀(m:Nat) o,m<j->g.ag[m]?=some o->R.tW g o=true)/\w.grownBy wr none) (fun i _=>g.ag.length-(intOf i).toNat)
    case atStart=>exact⟨0,bK _,rfl,(fun m t hm=>aN hm (wT m)),cV.out⟩
    case round=>
     as_aux_lemma=>
      clear cV;obtain⟨i,Hi,rfl,HA,bO⟩:=hrel;have eP:=HB.out.kept bO (by simp);have q0:wr.cell? ⟨b,0,none⟩=some (.slice a1 g.ts.length c1):=eP.cell 0;have q1:wr.cell? ⟨b,1,none⟩=some (.slice a2 g.ag.length c2):=eP.cell 1;have cV:=ae bO;by_cases aJ:i<g.ag.length
      ·obtain⟨o,ho⟩:∃o,g.ag[i]?=some o:=⟨_,aS aJ⟩
       obtain⟨go,eo,-,Dt⟩:=(HO.out.Z bO).bN i o ho;subst eo;obtain⟨ai,ci,an,cn,k0,k1,k2,k3,hI,hN⟩:=Dt;have Ho:=ae ho;have dW:=ae aJ;have HI:=ae hI;have LC:=ae hN;have Bu:=ae (HW.out.os o (bU ho));have pS:=(R.KK o.af Bu.out.af).2.1;have fP:=Bu.out.nul;have KM:(S9 ((R.iz o.af).map R.pX)).size=(R.iz o.af).length:=by rw[Gn,jb]
       have mW:Hid (R.tW g o=true->∀(m:Nat) o,m<i+1->g.ag[m]?=some o->R.tW g o=true):=fun h m o' hm iM=>by
        rcases cE m i with h' |h'
        ·exact HA.out m o' h' iM
        ·obtain rfl:m=i:=by omega
         rw[Ho.out] at iM;injection iM with iM;subst iM;exact h
       have po:=ae (fun h=>R.avh (g:=g) Ho.out h);obtain⟨zR,PR⟩:=R.VA avo.out ho;obtain⟨z,tz,lH,hz⟩:=PO Bu.out.Pd zR;obtain⟨ga,-,-,ea,-,-,-,-,-,-,-,LD,-⟩:=(HT.out.Z bO).get z tz hz;subst ea;have wH:(z:Int)<(g.ts.length:Int):=by rw[<-lH];exact zR
       have agH:=ae PR;have zT:=ae (show R.pV g o.out=tz by rw[lH];exact R.nX hz);rw[lH] at k2;have Hk:=ae Bu.out.af;have fq:(o.ins.length:Int)<=3:=by rw[Bu.out.inl];exact(R.KK o.af Bu.out.af).1.2
       clear ho eP bO hI hN HA zR PR lH hz;go_wp2_with fail;refine(adO o.af wr).mono ?_;rintro e w2⟨rfl,rfl⟩;obtain⟨cs,oG⟩:∃cs,Hid (R.iz o.af=cs):=⟨_,rfl⟩;rw[oG.out] at pS fP KM ⊢;have E9:=ae fP;rw[fP] at k3 LC;clear fP;obtain⟨qr,sD⟩:∃q,Hid (q=w2):=⟨_,rfl⟩;go_wp2;go_loopw[10] (fun v wp=>∃m:Nat,Hid (m<=cs.length)/\v=.int .i64 m/\Hid (∀k,k<m->R.sI o k=true)/\wp=qr) (fun v _=>cs.length-(intOf v).toNat)
       case atStart=>exact⟨0,bK _,rfl,(fun m hm=>aN hm (wT m)),sD.out.symm⟩
       case round=>
        as_aux_lemma=>
         obtain⟨m,Hm,rfl,HS,xR⟩:=hrel;rw[sD.out] at xR;subst xR;by_cases hm:m<cs.length
         ·have yv:=ae hm
          obtain⟨c,hc⟩:∃c,cs[m]?=some c:=⟨_,aS hm⟩;have T9:=(R.KK o.af Hk.out).2.2 c (by rw[oG.out];exact bU hc);have yi:m<(S9 (cs.map R.pX)).size:=by rw[KM];exact hm
          have Hb:=ae (OU (cs.map R.pX) m yi (R.pX c) (by rw[dV,hc];rfl));have jx:=ae (show R.sI o m=!(c==(Char.ofNat 119)&&(decide (R.fy o m<1073741824)||decide (R.fy o (m+1) < -31)||decide (30<R.fy o (m+1)))) by unfold R.sI;rw[oG.out,oa,hc];rfl);have Hc:=ae hc;clear hc;rcases T9 with rfl|rfl|rfl|rfl
          ·have hb:((S9 (cs.map R.pX))[m]'yi).toNat=117:=by rw[Hb.out];rfl
           have gL:Hid (∀k,k<m+1->R.sI o k=true):=fun k hk=>by
            rcases cE k m with h' |h'
            ·exact HS.out k h'
            ·obtain rfl:k=m:=by omega
             rw[jx.out];rfl
           go_wp2;go_roundw
           case rel=>exact⟨m+1,(by have:=yv.out;unfold Hid;omega),by go_num,gL.out,sD.out.symm⟩
           case measure=>have:=yv.out;simp[intOf];omega
          ·have hb:((S9 (cs.map R.pX))[m]'yi).toNat=115:=by rw[Hb.out];rfl
           have gL:Hid (∀k,k<m+1->R.sI o k=true):=fun k hk=>by
            rcases cE k m with h' |h'
            ·exact HS.out k h'
            ·obtain rfl:k=m:=by omega
             rw[jx.out];rfl
           go_wp2;go_roundw
           case rel=>exact⟨m+1,(by have:=yv.out;unfold Hid;omega),by go_num,gL.out,sD.out.symm⟩
           case measure=>have:=yv.out;simp[intOf];omega
          ·have hb:((S9 (cs.map R.pX))[m]'yi).toNat=98:=by rw[Hb.out];rfl
           have gL:Hid (∀k,k<m+1->R.sI o k=true):=fun k hk=>by
            rcases cE k m with h' |h'
            ·exact HS.out k h'
            ·obtain rfl:k=m:=by omega
             rw[jx.out];rfl
           go_wp2;go_roundw
           case rel=>exact⟨m+1,(by have:=yv.out;unfold Hid;omega),by go_num,gL.out,sD.out.symm⟩
           case measure=>have:=yv.out;simp[intOf];omega
          ·have hb:((S9 (cs.map R.pX))[m]'yi).toNat=119:=by rw[Hb.out];rfl
           have hnx:m+1<cs.length:=by have e:=R.avm o.af Hk.out m (by rw[oG.out];exact Hc.out);rw[oG.out] at e;exact e
           obtain⟨x,hx⟩:∃x,o.cO[m]?=some x:=⟨_,aS (by have:=E9.out;omega)⟩;obtain⟨y,hy⟩:∃y,o.cO[m+1]?=some y:=⟨_,aS (by have:=E9.out;omega)⟩;obtain⟨gn,en,-,-,dx⟩:=LC.out.get m x hx;subst en;obtain⟨_,en,-,-,dy⟩:=LC.out.get (m+1) y hy;injection en with en;injection en with en _ _;subst en;have xN:=ae (show R.sI o m=!(decide (x<1073741824)||decide (y < -31)||decide (30<y)) by
            rw[jx.out];unfold R.fy;rw[oa,oa,hx,hy];rfl)
           have hnm:(m:Int)+1<(cs.length:Int):=by omega
           have azm:(m:Int)<(cs.length:Int):=by omega
           have Hnx:=ae hnx;clear hx hy hnx;have pY:(decide (x<1073741824)=true/\R.sI o m=false)\/(decide (x<1073741824)=false/\decide (y < -31)=true/\R.sI o m=false)\/(decide (x<1073741824)=false/\decide (y < -31)=false/\decide (y > 30)=true/\R.sI o m=false)\/(decide (x<1073741824)=false/\decide (y < -31)=false/\decide (y > 30)=false/\R.sI o m=true):=by
            rw[xN.out];by_cases h1:x<1073741824
            ·exact .inl ⟨eG h1,by rw[eG h1];rfl⟩
            ·by_cases h2:y < -31
             ·exact .inr (.inl ⟨eE h1,eG h2,by rw[eG h2];simp⟩)
             ·by_cases h3:y > 30
              ·exact .inr (.inr (.inl ⟨eE h1,eE h2,eG h3,by rw[eG (show 30<y from h3)];simp⟩))
              ·exact .inr (.inr (.inr ⟨eE h1,eE h2,eE h3,by rw[eE h1,eE h2,eE (show ¬30<y from h3)];rfl⟩))
           rcases pY with⟨z1,zb⟩|⟨z1,z2,zb⟩|⟨z1,z2,z3,zb⟩|⟨z1,z2,z3,zb⟩
           ·have HN:=ae (po.out (R.VE (k:=m) (by rw[oG.out];exact yv.out) zb))
            clear zb;go_wp2;go_ret;exact⟨bB HN.out.symm,cV.out⟩
           ·have HN:=ae (po.out (R.VE (k:=m) (by rw[oG.out];exact yv.out) zb))
            clear zb;go_wp2;go_ret;exact⟨bB HN.out.symm,cV.out⟩
           ·have HN:=ae (po.out (R.VE (k:=m) (by rw[oG.out];exact yv.out) zb))
            clear zb;go_wp2;go_ret;exact⟨bB HN.out.symm,cV.out⟩
           ·have gL:Hid (∀k,k<m+1->R.sI o k=true):=fun k hk=>by
             rcases cE k m with h' |h'
             ·exact HS.out k h'
             ·obtain rfl:k=m:=by omega
              exact zb
            clear zb;go_wp2;go_roundw
            case rel=>exact⟨m+1,(by have:=yv.out;unfold Hid;omega),by go_num,gL.out,sD.out.symm⟩
            case measure=>have:=yv.out;simp[intOf];omega
         ·obtain rfl:m=cs.length:=by have:=Hm.out;omega
          have avr:=ae HS.out;clear hm Hm HS;have zL:(¬0<cs.length/\R.m6 o=true)\/(0<cs.length/\(o.af !=8)=false/\R.m6 o=true)\/(0<cs.length/\(o.af !=8)=true/\∃p:Nat,cs.length=p+2/\R.m6 o=!decide (R.fy o (p+1)<R.fy o p)):=by
           rw[<-E9.out];by_cases h0:o.cO.length=0
           ·exact .inl ⟨by omega,by unfold R.m6;rw[h0];rfl⟩
           ·by_cases h8:o.af=8
            ·exact .inr (.inl ⟨by omega,by simp[h8],by unfold R.m6;rw[h8];simp⟩)
            ·have h2:2<=o.cO.length:=by
              rw[E9.out,<-oG.out];rcases R.KJ o.af Hk.out with hk|hk|hk|hk|hk|hk|hk|hk|hk|hk
              all_goals first
               |(rw[hk];decide)
               |exact aN hk h8
               |(exfalso;apply h0;rw[E9.out,<-oG.out,hk];rfl)
             refine .inr (.inr ⟨by omega,by simp[h8],o.cO.length-2,by omega,?_⟩);unfold R.m6;rw[eG (show 0<o.cO.length by omega),show o.cO.length-2+1=o.cO.length-1 by omega];have:(o.af !=8)=true:=by simp[h8]
             rw[this];rfl
          have azo:(cs.length:Int)<=8:=by omega
          go_upto_region 23 with fail
          go_cut [166] from 69 to 236 (fun s wx=>s=.bool (!R.m6 o)/\wr.grownBy wx none)
          case first=>
           as_aux_lemma=>
            rcases zL with⟨v1,ml⟩|⟨v1,v2,ml⟩|⟨v1,v2,p,hp,ml⟩
            ·have LF:=ae ml
             clear ml;go_quiet(fail);go_wp2_with fail
             go_meet
             exact⟨by rw[LF.out];rfl,bE _ _ _⟩
            ·have LF:=ae ml
             clear ml;go_quiet(fail);go_wp2_with fail
             go_meet
             exact⟨by rw[LF.out];rfl,bE _ _ _⟩
            ·obtain⟨x,hx⟩:∃x,o.cO[p]?=some x:=⟨_,aS (by have:=E9.out;omega)⟩
             obtain⟨y,hy⟩:∃y,o.cO[p+1]?=some y:=⟨_,aS (by have:=E9.out;omega)⟩;obtain⟨gn,en,-,-,dx⟩:=LC.out.get p x hx;subst en;obtain⟨_,en,-,-,dy⟩:=LC.out.get (p+1) y hy;injection en with en;injection en with en _ _;subst en;have e1:IntKind.i64.wrap ((cs.length:Int)-2)=(p:Int):=by rw[cU];omega
             have e2:IntKind.i64.wrap ((cs.length:Int)-1)=((p+1:Nat):Int):=by rw[cU];omega
             have i1:(p:Int)<(cs.length:Int):=by omega
             have i2:((p+1:Nat):Int)<(cs.length:Int):=by omega
             have Hs2:=ae (show R.m6 o=!decide (y<x) by rw[ml];unfold R.fy;rw[oa,oa,hx,hy];rfl);clear hx hy ml hp;by_cases AW:y<x
             ·have v3:decide (x > y)=true:=eG AW
              have VF:=ae AW;clear AW;go_quiet(fail);go_wp2_with fail
              go_meet
              exact⟨by rw[Hs2.out,eG VF.out];rfl,bE _ _ _⟩
             ·have v3:decide (x > y)=false:=eE AW
              have VF:=ae AW;clear AW;go_quiet(fail);go_wp2_with fail
              go_meet
              exact⟨by rw[Hs2.out,eE (show ¬y<x by have:=VF.out;omega)];rfl,bE _ _ _⟩
          case rest=>
           as_aux_lemma=>
            obtain⟨rfl,gd⟩:=hcut;clear zL
            cases ml:R.m6 o with
            |false=>
             have HN:=ae (po.out (R.avj ml));have ke:=ae (aC cV.out gd);clear gd q0 q1 k0 k1 k2 k3 LD;go_wp2;go_ret;exact⟨bB HN.out.symm,ke.out⟩
            |true=>
             rw[show(!true)=false from rfl];have LF:=ae ml;clear ml;have ke:=ae (aC cV.out gd);have VG:=ae (nV gd q0);have Hk1:=ae (nV gd k1);have PU:=ae (nV gd k2);have Hk0:=ae (nV gd k0);have Hdz:=ae (nV gd LD);have tA:=ae (HI.out.Z gd);have Cz:=ae (HT.out.Z ke.out);clear gd q0 k0 k1 k2 k3 LD cV q1;have q0:=VG.out;have k2:=PU.out;have LD:=Hdz.out;go_wp2;go_quiet(fail);have oI:=ae (aC ke.out (bE wc nq none));have ge:=bE wc nq none;have avs:=ae (nV ge VG.out);have agN:=ae (nV ge Hk1.out);have avt:=ae (nV ge Hk0.out);have HIe:=ae (tA.out.Z ge);have HTe:=ae (Cz.out.Z ge);clear ge q0 k2 LD ke VG Hk1 PU Hk0 Hdz tA Cz;generalize wc.drewN nq=we at *;have k1:=agN.out;go_wp2;clear k1;go_loopw[13] (fun v wr=>∃k:Nat,Hid (k<=o.ins.length)/\v=.int .i64 k/\Hid (∀m,m<k->R.tV g o m=true)/\we.grownBy wr none) (fun v _=>o.ins.length-(intOf v).toNat)
             case atStart=>exact⟨0,bK _,rfl,(fun t ht=>aN ht (wT t)),fZ _ _⟩
             case round=>
              as_aux_lemma=>
               obtain⟨k,Hk',rfl,HZ,aF⟩:=hrel;have k1:=nV aF agN.out;have k0:=nV aF avt.out;have q0:=nV aF avs.out;have bH:=ae (aC oI.out aF);have jK:=ae aF;by_cases pz:k<o.ins.length
               ·obtain⟨x,hx⟩:∃x,o.ins[k]?=some x:=⟨_,aS pz⟩
                obtain⟨gi,ei,-,-,dx⟩:=(HIe.out.Z aF).get k x hx;subst ei;obtain⟨tn,t,rfl,ht⟩:=PO (g:=g) (Bu.out.ins x (bU hx)).1 (agH.out k x hx);obtain⟨_,-,-,et,-,-,-,-,-,-,-,dt4,-⟩:=(HTe.out.Z aF).get tn t ht;injection et with et;injection et with et _ _;subst et;have ya:(tn:Int)<(g.ts.length:Int):=agH.out k _ hx;have HX:=ae (show R.tV g o k=(!(o.ins.length==3&&decide (0<k)&&t.zero !=0)&&!(decide (o.ins.length<3)&&o.af !=4&&t.zero !=tz.zero)) by
                 unfold R.tV R.ik;rw[zT.out,oa,hx];show(!(o.ins.length==3&&decide (0<k)&&(R.pV g (tn:Int)).zero !=0)&&!(decide (o.ins.length<3)&&o.af !=4&&(R.pV g (tn:Int)).zero !=tz.zero))=_;rw[R.nX ht])
                have lW:=ae pz;have m8:Hid (R.tV g o k=true->∀m,m<k+1->R.tV g o m=true):=fun h m hm=>by
                 rcases cE m k with h' |h'
                 ·exact HZ.out m h'
                 ·obtain rfl:m=k:=by omega
                  exact h
                have Dz:=ae (fun h=>po.out (R.avk (k:=k) lW.out h));clear hx ht aF HZ;have pY:(o.ins.length=3/\k=0/\R.tV g o k=true)\/(o.ins.length=3/\0<k/\(t.zero !=0)=true/\R.tV g o k=false)\/(o.ins.length=3/\0<k/\(t.zero !=0)=false/\R.tV g o k=true) \/
                  (o.ins.length<3/\(o.af !=4)=false/\R.tV g o k=true)\/(o.ins.length<3/\(o.af !=4)=true/\(t.zero !=tz.zero)=false/\R.tV g o k=true)\/(o.ins.length<3/\(o.af !=4)=true/\(t.zero !=tz.zero)=true/\R.tV g o k=false):=by
                 rw[HX.out];by_cases h3:o.ins.length=3
                 ·have n3:decide (o.ins.length<3)=false:=eE (by omega)
                  have m3:(o.ins.length==3)=true:=by simp[h3]
                  by_cases rN:0<k
                  ·cases cP:(t.zero !=0)
                   ·exact .inr (.inr (.inl ⟨h3,rN,rfl,by rw[n3];simp⟩))
                   ·exact .inr (.inl ⟨h3,rN,rfl,by rw[m3,eG rN];rfl⟩)
                  ·exact .inl ⟨h3,by omega,by rw[n3,eE rN];simp⟩
                 ·have n3:decide (o.ins.length<3)=true:=eG (by omega)
                  have m3:(o.ins.length==3)=false:=by simp[h3]
                  have l3:o.ins.length<3:=by omega
                  cases h4:(o.af !=4)
                  ·exact .inr (.inr (.inr (.inl ⟨l3,rfl,by rw[m3];simp⟩)))
                  ·cases h5:(t.zero !=tz.zero)
                   ·exact .inr (.inr (.inr (.inr (.inl ⟨l3,rfl,rfl,by rw[m3];simp⟩))))
                   ·exact .inr (.inr (.inr (.inr (.inr ⟨l3,rfl,rfl,by rw[m3,n3];simp⟩))))
                have Hor:=ae pY;clear pY;have DO:(k:Int)<3:=by have:=lW.out;omega
                have avy:k<3:=by have:=lW.out;omega
                go_wp2;go_quiet(fail);have CA:=ae (aC bH.out (bE wr nq none));have PV:=ae (aC jK.out (bE wr nq none));have gf:=bE wr nq none;have dt:=nV gf dt4;have GZ:=nV gf k1;have kk0:=nV gf k0;clear gf dt4 k1 k0 q0 dx bH jK;generalize wr.drewN nq=wf at *;have wk:IntKind.i64.wrap ((k:Int)+1)=((k+1:Nat):Int):=by rw[cU];omega
                clear DO avy;rcases Hor.out with⟨hl,rN,qI⟩|⟨hl,v2,v3,qI⟩|⟨hl,v2,v3,qI⟩|⟨hl,v3,qI⟩|⟨hl,v3,v4,qI⟩|⟨hl,v3,v4,qI⟩
                ·subst rN
                 rw[hl] at GZ;have kg:decide (((0:Nat):Int) > 0)=false:=by decide
                 have Hl:=ae hl;clear hl;have mY:=ae (m8.out qI);clear m8 Dz HX qI;go_wp2;go_roundw
                 case rel=>exact⟨0+1,(by have:=lW.out;unfold Hid;omega),by go_num,mY.out,PV.out⟩
                 case measure=>have:=lW.out;simp[intOf];omega
                ·rw[hl] at GZ
                 have kg:decide ((k:Int) > 0)=true:=eG (by omega);have Hl:=ae hl;clear hl;have HN:=ae (Dz.out qI);clear m8 Dz HX qI;go_wp2;go_ret;exact⟨bB HN.out.symm,CA.out⟩
                ·rw[hl] at GZ
                 have kg:decide ((k:Int) > 0)=true:=eG (by omega);have Hl:=ae hl;clear hl;have mY:=ae (m8.out qI);clear m8 Dz HX qI;go_wp2;go_roundw
                 case rel=>exact⟨k+1,(by have:=lW.out;unfold Hid;omega),by go_num,mY.out,PV.out⟩
                 case measure=>have:=lW.out;simp[intOf];omega
                ·have LG:o.ins.length=1\/o.ins.length=2:=by have:=lW.out;omega
                 clear hl;rcases LG with hl|hl
                 all_goals
                  rw[hl] at GZ;have Hl:=ae hl;clear hl;have mY:=ae (m8.out qI);clear m8 Dz HX qI;go_wp2;go_roundw
                  case rel=>exact⟨k+1,(by have:=lW.out;unfold Hid;omega),by go_num,mY.out,PV.out⟩
                  case measure=>have:=lW.out;simp[intOf];omega
                ·have LG:o.ins.length=1\/o.ins.length=2:=by have:=lW.out;omega
                 clear hl;rcases LG with hl|hl
                 all_goals
                  rw[hl] at GZ;have Hl:=ae hl;clear hl;have mY:=ae (m8.out qI);clear m8 Dz HX qI;go_wp2;go_roundw
                  case rel=>exact⟨k+1,(by have:=lW.out;unfold Hid;omega),by go_num,mY.out,PV.out⟩
                  case measure=>have:=lW.out;simp[intOf];omega
                ·have LG:o.ins.length=1\/o.ins.length=2:=by have:=lW.out;omega
                 clear hl;rcases LG with hl|hl
                 all_goals
                  rw[hl] at GZ;have Hl:=ae hl;clear hl;have HN:=ae (Dz.out qI);clear m8 Dz HX qI;go_wp2;go_ret;exact⟨bB HN.out.symm,CA.out⟩
               ·obtain rfl:k=o.ins.length:=by have:=Hk'.out;omega
                have mX:=ae (mW.out (R.avl (by rw[oG.out];exact avr.out) LF.out HZ.out));clear pz aF;go_wp2;go_roundw
                case rel=>exact⟨i+1,(by have:=dW.out;unfold Hid;omega),by go_num,mX.out,bH.out⟩
                case measure=>have:=dW.out;simp[intOf];omega
      ·obtain rfl:i=g.ag.length:=by have:=Hi.out;omega
       have HN:=ae (R.avi avq.out (fun m o ho=>HA.out m o (by
        rcases cE m g.ag.length with h' |h'
        ·exact h'
        ·rw[db h'] at ho;exact aN ho (by simp)) ho))
       clear aJ eP bO;go_wp2;go_ret;exact⟨bB HN.out.symm,cV.out⟩
end Go.Proofs.YtcnhfffgbamonaaGreat
