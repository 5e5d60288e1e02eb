import Derived.Test.YtcnhfffgbamonabGreatZ30
set_option maxRecDepth 100000
set_option maxHeartbeats 6400000
namespace Go.Proofs.YtcnhfffgbamonabGreat
open Go.Proofs.Tryz
open Go.RowKit
namespace R
theorem ado{g:bX}{k:Nat}{t:M.Tn}(h:g.ts[k]?=some t):oE g k=t.af:=by
 unfold oE;rw[ey,nU,dY,h];rfl
theorem aq8{g:bX}{n j:Nat}{t:Int}{o:Op}(h:g.ag[j]?=some o)(hj:j<n)(ho:o.out=t):CT g n t=true:=by
 unfold CT;rw[List.any_eq_true];refine⟨j,List.mem_range.2 hj,?_⟩;rw[h];simp[ho]
theorem aq9{g:bX}{n:Nat}{t:Int}(h:∀(m:Nat) o,m<n->g.ag[m]?=some o->o.out≠t):CT g n t=false:=by
 unfold CT;rw[List.any_eq_false];intro m hm;have Fj:=List.mem_range.1 hm
 cases ho:g.ag[m]? with
 | none=>simp
 | some o=>
  have:=h m o Fj ho
  simpa using this
theorem adp{g:bX}{t:Int}{n:Nat}{ws bs:Bool}(h:(g.ts.length:Int)<=t):there g t n ws bs=false:=by unfold there;rw[ay h]
theorem ara{g:bX}{t:Int}{n:Nat}{ws bs:Bool}(h:¬(g.ts.length:Int)<=t)(h':(ws||bs)=true):there g t n ws bs=((ws&&oE g t==1)||(bs&&oE g t==2)):=by unfold there;rw[ak h,ay h']
theorem arb{g:bX}{t:Int}{n:Nat}(h:¬(g.ts.length:Int)<=t)(h':oE g t≠3):there g t n false false=(oE g t != 2):=by unfold there;rw[ak h,ak (by simp),ay h']
theorem arc{g:bX}{t:Int}{n:Nat}(h:¬(g.ts.length:Int)<=t)(h':oE g t=3):there g t n false false=CT g n t:=by unfold there;rw[ak h,ak (by simp),ak (by simpa using h')]
end R
theorem Kt(b:Nat)(g:R.bX)(t n:Nat)(ws bs:Bool)(w:World)(h:lB w b g)(hw:EC g)(hn:n<=g.ag.length)(_ht:t<=255) :
  Calls prog 145 #[.pointer (some ⟨b,0,none⟩),.int .i64 t,.int .i64 n,.bool ws,.bool bs] w fun e w'=>e=.returned (.bool (R.there g t n ws bs))/\w'=w:=by
 have iq:=hw.nt;have j9:=hw.no;have HW:=ae hw;obtain⟨a1,c1,a2,c2,a3,c3,hB,hT,hO,hU⟩:=h;have q0:w.cell? ⟨b,0,none⟩=some (.slice a1 g.ts.length c1):=hB.cell 0;have q1:w.cell? ⟨b,1,none⟩=some (.slice a2 g.ag.length c2):=hB.cell 1;have HO:=ae hO;have Hn:=ae hn;clear hB hO hU hw;by_cases TK:(g.ts.length:Int)<=(t:Int)
 ·have He:=ae (R.adp (n:=n) (ws:=ws) (bs:=bs) TK)
  go_enter func145,ntmps145;go_wp2;go_ret;exact⟨bq He.out.symm,rfl⟩
 ·have aK:t<g.ts.length:=by omega
  obtain⟨tt,TL⟩:∃tt,g.ts[t]?=some tt:=⟨_,aT aK⟩;obtain⟨ga,ao,cp,rfl,-,-,-,d0,-,-,-,-,-⟩:=hT.get t tt TL;have Hk:=ae (R.ado TL);have Hf:=ae TK;clear TL hT TK;by_cases A7:(ws||bs)=true
  ·have He:=ae (R.ara (n:=n) Hf.out A7)
   rw[Hk.out] at He;generalize tt.af=k at *
   cases k1:(k==1)<;>cases k2:(k==2)<;>cases ws<;>cases bs
   all_goals first
    | exact aN A7 (by decide)
    | (clear A7;go_enter func145,ntmps145;go_wp2;go_ret;exact⟨bq (by rw[He.out,k1,k2];rfl),rfl⟩)
  ·have qG:ws=false:=by cases ws<;>simp_all
   have E2:bs=false:=by cases bs<;>simp_all
   subst qG E2;clear A7;by_cases h3:tt.af=3
   ·have He:=ae (R.arc (n:=n) Hf.out (by rw[Hk.out];exact h3))
    have h3':(tt.af != 3)=false:=by simp[h3]
    clear h3 Hk;generalize tt.af=k at *;go_enter func145,ntmps145;go_wp2
    go_loop [12] (fun i=>∃j:Nat,Hid (j<=n)/\i=.int .i64 j/\Hid (∀(m:Nat) o,m<j->g.ag[m]?=some o->o.out≠t)) (fun i=>n-(intOf i).toNat)
    case atStart=>exact⟨0,bK _,rfl,fun m o hm=>aN hm (wG m)⟩
    case round=>
     obtain⟨j,Hj,rfl,oq⟩:=hrel;by_cases qX:j<n
     ·obtain⟨o,ho⟩:∃o,g.ag[j]?=some o:=⟨_,aT (by have:=Hn.out;omega)⟩
      obtain⟨go,ai,ci,an,cn,rfl,-,-,-,-,-,-,d2,-⟩:=HO.out.get j o ho;have Ho:=ae ho;have ke:j<g.ag.length:=by have:=Hn.out;omega
      clear ho
      cases hx:(o.out==(t:Int)) with
      | true=>
       have HN:=ae (show R.there g t n false false=true by rw[He.out];exact R.aq8 Ho.out qX (by simpa using hx));go_wp2;go_ret;exact⟨bq HN.out.symm,rfl⟩
      | false=>
       have are:Hid (∀(m:Nat) o,m<j+1->g.ag[m]?=some o->o.out≠t):=fun m o' hm iK=>by
        rcases cF m j with h' | h'
        ·exact oq.out m o' h' iK
        ·obtain rfl:m=j:=by omega
         rw[Ho.out] at iK;injection iK with iK;subst iK
         simpa using hx
       go_wp2
       go_round
       case rel=>exact⟨j+1,(by unfold Hid;omega),by go_num,are.out⟩
       case measure=>simp[intOf];omega
     ·obtain rfl:j=n:=by have:=Hj.out;omega
      have HN:=ae (show R.there g t j false false=false by rw[He.out];exact R.aq9 oq.out);go_wp2;go_ret;exact⟨bq HN.out.symm,rfl⟩
   ·have He:=ae (R.arb (n:=n) Hf.out (by rw[Hk.out];exact h3))
    rw[Hk.out] at He;have h3':(tt.af != 3)=true:=by simp[h3]
    clear h3 Hk;generalize tt.af=k at *;go_enter func145,ntmps145;go_wp2;go_ret;exact⟨bq He.out.symm,rfl⟩
theorem nN{w w':World}(hg:w.grownBy w' none){a:Addr}{v:Value}(h:w.cell? a=some v):w'.cell? a=some v:=by
 rw[World.cell?_of_block (hg.block a.block (pY w _ h) (by simp))];exact h
theorem lB.drewN{w:World}{b:Nat}{g:R.bX}(h:lB w b g)(n:Nat):lB (w.drewN n) b g:=h.Z (bF w n none)
namespace R
theorem Ku{p:Nat->Bool}{n i:Nat}(hi:i<n)(h:p i=false):(List.range n).all p=false:=by
 rw[List.all_eq_false];exact⟨i,List.mem_range.2 hi,by simp[h]⟩
theorem Kv{p:Nat->Bool}{n:Nat}(h:∀i,i<n->p i=true):(List.range n).all p=true:=by
 rw[jg];exact fun i hi=>h i (List.mem_range.1 hi)
def CZ(g:bX)(t:Nat):Bool:=((oE g t==3)==(count g t==1))&&!decide (1<count g t)
def zx(g:bX)(i:Nat):Bool:=match g.ag[i]? with|some o=>CU g i o|none=>true
def Ba(g:bX)(u:Int):Bool:=there g u g.ag.length false false
theorem Kw(g:bX):pJ g=((List.range g.ts.length).all (CZ g)&&(List.range g.ag.length).all (zx g)&&g.aJ.all (Ba g)):=rfl
theorem arf{g:bX}{t:Nat}(ht:t<g.ts.length)(h:CZ g t=false):pJ g=false:=by
 rw[Kw,Ku ht h];rfl
theorem adq{g:bX}{i:Nat}(hi:i<g.ag.length)(h:zx g i=false):pJ g=false:=by
 rw[Kw,Ku hi h];simp
theorem arh{g:bX}{i:Nat}{u:Int}(hi:g.aJ[i]?=some u)(h:Ba g u=false):pJ g=false:=by
 have:g.aJ.all (Ba g)=false:=by
  rw[List.all_eq_false];exact⟨u,bV hi,by simp[h]⟩
 rw[Kw,this];simp
theorem ari{g:bX}(h1:∀t,t<g.ts.length->CZ g t=true)(h2:∀i,i<g.ag.length->zx g i=true)(h3:∀(i:Nat) u,g.aJ[i]?=some u->Ba g u=true):pJ g=true:=by
 have:g.aJ.all (Ba g)=true:=by
  rw[jg];intro u hu;obtain⟨i,hi⟩:=mM hu;exact h3 i u hi
 rw[Kw,Kv h1,Kv h2,this];rfl
def cy(g:bX)(t:Int)(i:Nat):Nat:=((g.ag.take i).filter fun o=>o.out==t).length
theorem arj(g:bX)(t:Int):cy g t g.ag.length=count g t:=by unfold cy count;rw[jo]
theorem ark{g:bX}{t:Int}{i:Nat}{o:Op}(h:g.ag[i]?=some o)(ho:(o.out==t)=true):cy g t (i+1)=cy g t i+1:=by
 unfold cy;rw[Lx h,List.filter_append,nC];simp[ho]
theorem Mx{g:bX}{t:Int}{i:Nat}{o:Op}(h:g.ag[i]?=some o)(ho:(o.out==t)=false):cy g t (i+1)=cy g t i:=by
 unfold cy;rw[Lx h,List.filter_append,nC];simp[ho]
theorem arl(g:bX)(t:Int)(i:Nat):cy g t i<=i:=by
 unfold cy;exact jK (List.length_filter_le _ _) (by simp;omega)
def uM(g:bX)(i:Nat)(o:Op)(k:Nat):Bool:=there g (o.ins.getD k 0) i (o.ins.length==3&&k==1) (o.ins.length==3&&k==2)
theorem OH(g:bX)(i:Nat)(o:Op):CU g i o=(decide (o.out<g.ts.length)&&(List.range o.ins.length).all (uM g i o)):=rfl
theorem OI{g:bX}{i:Nat}{o:Op}(h:g.ag[i]?=some o):zx g i=CU g i o:=by unfold zx;rw[h]
theorem arn{g:bX}{i:Nat}{o:Op}(h:g.ag[i]?=some o)(ho:¬o.out<g.ts.length):zx g i=false:=by
 rw[OI h,OH,eD ho];rfl
theorem aro{g:bX}{i k:Nat}{o:Op}(h:g.ag[i]?=some o)(hk:k<o.ins.length)(ho:uM g i o k=false):zx g i=false:=by
 rw[OI h,OH,Ku hk ho];simp
theorem arp{g:bX}{i:Nat}{o:Op}(h:g.ag[i]?=some o)(h1:o.out<g.ts.length)(h2:∀k,k<o.ins.length->uM g i o k=true):zx g i=true:=by
 rw[OI h,OH,eG h1,Kv h2];rfl
end R
theorem arq(b:Nat)(g:R.bX)(w:World)(h:lB w b g)(hw:EC g) :
  Calls prog 114 #[.pointer (some ⟨b,0,none⟩)] w fun e w'=>e=.returned (.bool (R.pJ g))/\w.grownBy w' none:=by
 have iq:=hw.nt;have j9:=hw.no;have By:=hw.nu;have HW:=ae hw;have zo:=ae h;obtain⟨a1,c1,a2,c2,a3,c3,hB,hT,hO,hU⟩:=h;have HB:=ae hB;have HT:=ae hT;have HO:=ae hO;have HU:=ae hU;clear hB hT hO hU hw;go_enter func114,ntmps114;go_wp2;go_loopw[3] (fun i wr=>∃j:Nat,Hid (j<=g.ts.length)/\i=.int .i64 j/\Hid (∀t,t<j->R.CZ g t=true)/\w.grownBy wr none) (fun i _=>g.ts.length-(intOf i).toNat)
 case atStart=>exact⟨0,bK _,rfl,(fun t ht=>aN ht (wG t)),gL _ _⟩
 case round=>
  obtain⟨j,Hj,rfl,HA,bO⟩:=hrel;have eM:=HB.out.kept bO (by simp);have q0:wr.cell? ⟨b,0,none⟩=some (.slice a1 g.ts.length c1):=eM.cell 0;have q1:wr.cell? ⟨b,1,none⟩=some (.slice a2 g.ag.length c2):=eM.cell 1;have cT:=ae bO;by_cases aK:j<g.ts.length
  ·have hOj:=ae (HO.out.Z bO)
   obtain⟨t,ht⟩:∃t,g.ts[j]?=some t:=⟨_,aT aK⟩;obtain⟨ga,ao,cp,ea,-,-,-,d0,-⟩:=(HT.out.Z bO).get j t ht;have Hk:=ae (R.ado ht);have dU:=ae aK;clear ht eM bO;subst ea;obtain⟨qr,sg⟩:∃q,Hid (q=wr):=⟨_,rfl⟩;go_wp2;go_loopw[4,5] (fun n i wp=>∃m:Nat,Hid (m<=g.ag.length)/\i=.int .i64 m/\n=.int .i64 (R.cy g j m)/\wp=qr) (fun _ i _=>g.ag.length-(intOf i).toNat)
   case atStart=>exact⟨0,bK _,rfl,rfl,sg.out.symm⟩
   case round=>
    obtain⟨m,Hm,rfl,rfl,xB⟩:=hrel;rw[sg.out] at xB;subst xB;have km:=R.arl g j m;by_cases hm:m<g.ag.length
    ·obtain⟨o,ho⟩:∃o,g.ag[m]?=some o:=⟨_,aT hm⟩
     obtain⟨go,ai,ci,an,cn,eo,-,-,-,-,-,-,d2,-⟩:=hOj.out.get m o ho;subst eo;have Ho:=ae ho;clear ho
     cases hx:(o.out==(j:Int)) with
     | true=>
      have Hc:=ae (R.ark Ho.out hx);generalize R.cy g j m=n at *;go_wp2;go_roundw
      case rel=>exact⟨m+1,(by unfold Hid;omega),by go_num,by rw[Hc.out];go_num,sg.out.symm⟩
      case measure=>simp[intOf];omega
     | false=>
      have Hc:=ae (R.Mx Ho.out hx);generalize R.cy g j m=n at *;go_wp2;go_roundw
      case rel=>exact⟨m+1,(by unfold Hid;omega),by go_num,by rw[Hc.out],sg.out.symm⟩
      case measure=>simp[intOf];omega
    ·obtain rfl:m=g.ag.length:=by have:=Hm.out;omega
     have Hc:=ae (R.arj g j);rw[Hc.out] at km ⊢;have rV:=ae (show R.CZ g j=(((t.af==3)==(R.count g j==1))&&!decide (1<R.count g j)) by unfold R.CZ;rw[Hk.out]);have xw:R.count g j<=255:=by omega
     have FE:=ae (show(R.count g j==1)=(((R.count g j:Nat):Int)==1) by cases h:(((R.count g j:Nat):Int)==1)<;>simp at h ⊢<;>omega);rw[FE.out] at rV;have TM:=ae (fun h=>R.arf (g:=g) (t:=j) dU.out h);have mS:Hid (R.CZ g j=true->∀t,t<j+1->R.CZ g t=true):=fun h t ht=>by
      rcases cF t j with h' | h'
      ·exact HA.out t h'
      ·obtain rfl:t=j:=by omega
       exact h
     clear km Hc Hm hm FE;generalize R.count g j=n at *
     cases k3:(t.af==3)<;>cases n1:((n:Int)==1)
     ·by_cases Gf:1<n
      ·have hb:decide ((n:Int) > 1)=true:=eG (by omega)
       have HN:=ae (TM.out (by rw[rV.out,k3,n1,eG Gf];rfl));clear Gf;go_wp2;go_ret;exact⟨bq HN.out.symm,cT.out⟩
      ·have hb:decide ((n:Int) > 1)=false:=eD (by omega)
       have mT:=ae (mS.out (by rw[rV.out,k3,n1,eD Gf];rfl));clear Gf;go_wp2;go_roundw
       case rel=>exact⟨j+1,(by have:=dU.out;unfold Hid;omega),by go_num,mT.out,cT.out⟩
       case measure=>have:=dU.out;simp[intOf];omega
     ·have HN:=ae (TM.out (by rw[rV.out,k3,n1];rfl))
      go_wp2;go_ret;exact⟨bq HN.out.symm,cT.out⟩
     ·have HN:=ae (TM.out (by rw[rV.out,k3,n1];rfl))
      go_wp2;go_ret;exact⟨bq HN.out.symm,cT.out⟩
     ·have art:(n:Int)=1:=by simpa using n1
      have adr:n=1:=by omega
      clear art;have hb:decide ((n:Int) > 1)=false:=eD (by omega);have mT:=ae (mS.out (by rw[rV.out,k3,n1,adr];rfl));clear adr;go_wp2;go_roundw
      case rel=>exact⟨j+1,(by have:=dU.out;unfold Hid;omega),by go_num,mT.out,cT.out⟩
      case measure=>have:=dU.out;simp[intOf];omega
  ·obtain rfl:j=g.ts.length:=by have:=Hj.out;omega
   clear aK eM bO q1;go_wp2;clear q0;go_loopw[6] (fun i wr=>∃j:Nat,Hid (j<=g.ag.length)/\i=.int .i64 j/\Hid (∀t,t<j->R.zx g t=true)/\w.grownBy wr none) (fun i _=>g.ag.length-(intOf i).toNat)
   case atStart=>exact⟨0,bK _,rfl,(fun t ht=>aN ht (wG t)),cT.out⟩
   case round=>
    clear cT;obtain⟨i,Hi,rfl,mT,bO⟩:=hrel;have eM:=HB.out.kept bO (by simp);have q0:wr.cell? ⟨b,0,none⟩=some (.slice a1 g.ts.length c1):=eM.cell 0;have q1:wr.cell? ⟨b,1,none⟩=some (.slice a2 g.ag.length c2):=eM.cell 1;have cT:=ae bO;by_cases aK:i<g.ag.length
    ·obtain⟨o,ho⟩:∃o,g.ag[i]?=some o:=⟨_,aT aK⟩
     obtain⟨go,ai,ci,an,cn,eo,-,-,IG,-,-,d1,d2,-⟩:=(HO.out.Z bO).get i o ho;subst eo;have Ho:=ae ho;have dU:=ae aK;have wo:=HW.out.os o (bV ho);have Bb:=ae wo;have fC:(o.ins.length:Int)<=3:=by rw[wo.inl];exact(R.Ki o.af wo.af).1.2
     have o0:=wo.OD;have o1:=wo.aqH;have IH:=ae IG;clear ho wo eM bO IG;by_cases zy:o.out<g.ts.length
     ·have AP:decide (o.out>=(g.ts.length:Int))=false:=eD (by omega)
      have Sd:=ae zy;clear zy;go_wp2;go_quiet (fail);have j6:=ae (aC cT.out (bF wr nq none));have gd:=bF wr nq none;have sV:=ae (IH.out.Z gd);have Hd1:=ae (nN gd d1);have Hq1:=ae (nN gd q1);clear gd d1 d2 q0 q1 cT IH AP;generalize wr.drewN nq=wd at *;have dd1:=Hd1.out;go_wp2;clear dd1;go_loopw[8] (fun v wr=>∃k:Nat,Hid (k<=o.ins.length)/\v=.int .i64 k/\Hid (∀m,m<k->R.uM g i o m=true)/\wd.grownBy wr none) (fun v _=>o.ins.length-(intOf v).toNat)
      case atStart=>exact⟨0,bK _,rfl,(fun t ht=>aN ht (wG t)),gL _ _⟩
      case round=>
       obtain⟨k,Hk,rfl,qV,aF⟩:=hrel;have d1:=nN aF Hd1.out;have bH:=ae (aC j6.out aF);have jH:=ae aF;by_cases qH:k<o.ins.length
       ·obtain⟨x,hx⟩:∃x,o.ins[k]?=some x:=⟨_,aT qH⟩
        obtain⟨gi,ei,-,-,dx⟩:=(sV.out.Z aF).get k x hx;subst ei;have bx:=Bb.out.ins x (bV hx);obtain⟨tn,rfl⟩:=fR bx.1;have btn:(tn:Int)<=255:=bx.2;have xZ:=zo.out.Z bH.out;have HX:=ae (show R.uM g i o k=R.there g tn i (o.ins.length==3&&k==1) (o.ins.length==3&&k==2) by unfold R.uM;rw[nU,hx];rfl);have lT:=ae qH;have mY:Hid (R.uM g i o k=true->∀m,m<k+1->R.uM g i o m=true):=fun h m hm=>by
         rcases cF m k with h' | h'
         ·exact qV.out m h'
         ·obtain rfl:m=k:=by omega
          exact h
        have pb:=ae (fun h=>R.adq (g:=g) dU.out (R.aro Ho.out lT.out h));clear hx bx aF qV;have C0:i<=g.ag.length:=by have:=dU.out;omega
        have arw:(((o.ins.length:Int)==3)=false/\(o.ins.length==3)=false)\/(((o.ins.length:Int)==3)=true/\(o.ins.length==3)=true/\k=0)\/(((o.ins.length:Int)==3)=true/\(o.ins.length==3)=true/\k=1)\/(((o.ins.length:Int)==3)=true/\(o.ins.length==3)=true/\k=2):=by
         by_cases h3:o.ins.length=3
         ·rcases(show k=0\/k=1\/k=2 by omega) with h|h|h
          ·exact .inr (.inl ⟨by simp[h3],by simp[h3],h⟩)
          ·exact .inr (.inr (.inl ⟨by simp[h3],by simp[h3],h⟩))
          ·exact .inr (.inr (.inr ⟨by simp[h3],by simp[h3],h⟩))
         ·exact .inl ⟨by simp;omega,by simp[h3]⟩
        rcases arw with⟨l1,l2⟩|⟨l1,l2,rfl⟩|⟨l1,l2,rfl⟩|⟨l1,l2,rfl⟩
        ·have HY:=ae (show R.uM g i o k=R.there g tn i false false by rw[HX.out,l2];rfl)
         have HC:=ae (fun nd=>Kt b g tn i false false (wr.drewN nd) (xZ.drewN nd) HW.out C0 (by omega));clear HX l2 xZ C0;rw[HY.out] at mY pb;generalize R.there g tn i false false=jI at *;go_wp2_with fail;go_quiet (exact mQ (HC.out _));have oz:=ae (aC bH.out (bF wr nq none));have EE:=ae (aC jH.out (bF wr nq none));clear HC d1 dx bH jH;generalize wr.drewN nq=we at *
         cases jI with
         | false=>
          have HN:=ae (pb.out rfl);go_wp2;go_ret;exact⟨bq HN.out.symm,oz.out⟩
         | true=>
          have mU:=ae (mY.out rfl);go_wp2;go_roundw
          case rel=>exact⟨k+1,(by have:=lT.out;unfold Hid;omega),by go_num,mU.out,EE.out⟩
          case measure=>have:=lT.out;simp[intOf];omega
        ·have HY:=ae (show R.uM g i o 0=R.there g tn i false false by rw[HX.out,l2];rfl)
         have HC:=ae (fun nd=>Kt b g tn i false false (wr.drewN nd) (xZ.drewN nd) HW.out C0 (by omega));clear HX l2 xZ C0;rw[HY.out] at mY pb;generalize R.there g tn i false false=jI at *;go_wp2_with fail;go_quiet (exact mQ (HC.out _));have oz:=ae (aC bH.out (bF wr nq none));have EE:=ae (aC jH.out (bF wr nq none));clear HC d1 dx bH jH;generalize wr.drewN nq=we at *
         cases jI with
         | false=>
          have HN:=ae (pb.out rfl);go_wp2;go_ret;exact⟨bq HN.out.symm,oz.out⟩
         | true=>
          have mU:=ae (mY.out rfl);go_wp2;go_roundw
          case rel=>exact⟨0+1,(by have:=lT.out;unfold Hid;omega),by go_num,mU.out,EE.out⟩
          case measure=>have:=lT.out;simp[intOf];omega
        ·have HY:=ae (show R.uM g i o 1=R.there g tn i true false by rw[HX.out,l2];rfl)
         have HC:=ae (fun nd=>Kt b g tn i true false (wr.drewN nd) (xZ.drewN nd) HW.out C0 (by omega));clear HX l2 xZ C0;rw[HY.out] at mY pb;generalize R.there g tn i true false=jI at *;go_wp2_with fail;go_quiet (exact mQ (HC.out _));have oz:=ae (aC bH.out (bF wr nq none));have EE:=ae (aC jH.out (bF wr nq none));clear HC d1 dx bH jH;generalize wr.drewN nq=we at *
         cases jI with
         | false=>
          have HN:=ae (pb.out rfl);go_wp2;go_ret;exact⟨bq HN.out.symm,oz.out⟩
         | true=>
          have mU:=ae (mY.out rfl);go_wp2;go_roundw
          case rel=>exact⟨1+1,(by have:=lT.out;unfold Hid;omega),by go_num,mU.out,EE.out⟩
          case measure=>have:=lT.out;simp[intOf];omega
        ·have HY:=ae (show R.uM g i o 2=R.there g tn i false true by rw[HX.out,l2];rfl)
         have HC:=ae (fun nd=>Kt b g tn i false true (wr.drewN nd) (xZ.drewN nd) HW.out C0 (by omega));clear HX l2 xZ C0;rw[HY.out] at mY pb;generalize R.there g tn i false true=jI at *;go_wp2_with fail;go_quiet (exact mQ (HC.out _));have oz:=ae (aC bH.out (bF wr nq none));have EE:=ae (aC jH.out (bF wr nq none));clear HC d1 dx bH jH;generalize wr.drewN nq=we at *
         cases jI with
         | false=>
          have HN:=ae (pb.out rfl);go_wp2;go_ret;exact⟨bq HN.out.symm,oz.out⟩
         | true=>
          have mU:=ae (mY.out rfl);go_wp2;go_roundw
          case rel=>exact⟨2+1,(by have:=lT.out;unfold Hid;omega),by go_num,mU.out,EE.out⟩
          case measure=>have:=lT.out;simp[intOf];omega
       ·obtain rfl:k=o.ins.length:=by have:=Hk.out;omega
        have mU:Hid (∀t,t<i+1->R.zx g t=true):=fun t ht=>by
         rcases cF t i with h' | h'
         ·exact mT.out t h'
         ·obtain rfl:t=i:=by omega
          exact R.arp Ho.out Sd.out qV.out
        clear qH aF;go_wp2;go_roundw
        case rel=>exact⟨i+1,(by have:=dU.out;unfold Hid;omega),by go_num,mU.out,bH.out⟩
        case measure=>have:=dU.out;simp[intOf];omega
     ·have AP:decide (o.out>=(g.ts.length:Int))=true:=eG (by omega)
      have HN:=ae (R.adq dU.out (R.arn Ho.out zy));clear zy;go_wp2;go_quiet (fail);have j6:=ae (aC cT.out (bF wr nq none));clear d1 d2 q0 q1 cT IH AP;generalize wr.drewN nq=wd at *;go_wp2;go_ret;exact⟨bq HN.out.symm,j6.out⟩
    ·obtain rfl:i=g.ag.length:=by have:=Hi.out;omega
     clear aK eM bO q0;go_wp2;clear q1;go_loopw[10] (fun i wr=>∃j:Nat,Hid (j<=g.aJ.length)/\i=.int .i64 j/\Hid (∀(t:Nat) u,t<j->g.aJ[t]?=some u->R.Ba g u=true)/\w.grownBy wr none) (fun i _=>g.aJ.length-(intOf i).toNat)
     case atStart=>exact⟨0,bK _,rfl,(fun t u ht=>aN ht (wG t)),cT.out⟩
     case round=>
      clear cT;obtain⟨k,Hk,rfl,qV,bO⟩:=hrel;have eM:=HB.out.kept bO (by simp);have q1:wr.cell? ⟨b,1,none⟩=some (.slice a2 g.ag.length c2):=eM.cell 1;have q2:wr.cell? ⟨b,2,none⟩=some (.slice a3 g.aJ.length c3):=eM.cell 2;have cT:=ae bO;by_cases aK:k<g.aJ.length
      ·obtain⟨u,hu⟩:∃u,g.aJ[k]?=some u:=⟨_,aT aK⟩
       obtain⟨gu,eu,-,-,du⟩:=(HU.out.Z bO).get k u hu;subst eu;have bu:=HW.out.us u (bV hu);obtain⟨tn,rfl⟩:=fR bu.1;have btn:(tn:Int)<=255:=bu.2;have xZ:=zo.out.Z bO;have HX:=ae (show R.Ba g tn=R.there g tn g.ag.length false false from rfl);have HC:=ae (fun nd=>Kt b g tn g.ag.length false false (wr.drewN nd) (xZ.drewN nd) HW.out (bj _) (by omega));have dU:=ae aK;have mY:Hid (R.Ba g tn=true->∀(t:Nat) u,t<k+1->g.aJ[t]?=some u->R.Ba g u=true):=fun h m u' hm uh=>by
        rcases cF m k with h' | h'
        ·exact qV.out m u' h' uh
        ·obtain rfl:m=k:=by omega
         rw[hu] at uh;injection uh with uh;subst uh;exact h
       have pb:=ae (fun h=>R.arh (g:=g) hu h);rw[HX.out] at mY pb;clear hu bu xZ bO eM qV HX;generalize R.there g tn g.ag.length false false=jI at *;go_wp2_with fail;go_quiet (exact mQ (HC.out _));have oz:=ae (aC cT.out (bF wr nq none));clear HC q1 q2 du cT;generalize wr.drewN nq=we at *
       cases jI with
       | false=>
        have HN:=ae (pb.out rfl);go_wp2;go_ret;exact⟨bq HN.out.symm,oz.out⟩
       | true=>
        have mU:=ae (mY.out rfl);go_wp2;go_roundw
        case rel=>exact⟨k+1,(by have:=dU.out;unfold Hid;omega),by go_num,mU.out,oz.out⟩
        case measure=>have:=dU.out;simp[intOf];omega
      ·obtain rfl:k=g.aJ.length:=by have:=Hk.out;omega
       have HN:=ae (R.ari HA.out mT.out (fun m u hu=>qV.out m u (by
        rcases cF m g.aJ.length with h' | h'
        ·exact h'
        ·rw[cX h'] at hu;exact aN hu (by simp)) hu))
       clear aK eM bO;go_wp2;go_ret;exact⟨bq HN.out.symm,cT.out⟩
theorem x8{P:Program}{f:FuncId}{args:Array Value}{w:World}{k n:Nat}{v:Value}(h:Calls P f args (w.drewN (k+n)) fun e w'=>e=.returned v/\w'=w.drewN (k+n)):Calls P f args (w.drewN (k+n)) fun e qM=>e=.returned v/\∃m,qM=w.drewN (k+m):=
 h.mono fun _ _ ⟨he,hm⟩=>⟨he,n,hm⟩
def jY(w:World)(p off:Nat)(o:R.Op):Prop:=
 ∃ai ci an cn,w.cell? ⟨p,off,none⟩=some (.int .i64 o.af)/\w.cell? ⟨p,off+1,none⟩=some (.slice ai o.ins.length ci)/\w.cell? ⟨p,off+2,none⟩=some (.int .i64 o.out)/\w.cell? ⟨p,off+3,none⟩=some (.slice an o.cO.length cn) /\
  aZ w 0 (.slice ai o.ins.length ci) o.ins/\aZ w 0 (.slice an o.cO.length cn) o.cO
theorem pa.bN{w:World}{base:Nat}{a:Option Addr}{n c:Nat}{os:List R.Op}(h:pa w base (.slice a n c) os)(i:Nat)(o:R.Op)(hi:os[i]?=some o) :
  ∃g,a=some ⟨g,0,none⟩/\n=os.length/\jY w g (i*4) o:=by
 obtain⟨g,ai,ci,an,cn,ha,hn,-,hI,hN,d0,d1,d2,d3⟩:=h.get i o hi;exact⟨g,ha,hn,ai,ci,an,cn,d0,d1,d2,d3,hI.mono (bK _),hN.mono (bK _)⟩
theorem jY.Z{w w':World}{p off:Nat}{o:R.Op}(h:jY w p off o)(hg:w.grownBy w' none):jY w' p off o:=by
 obtain⟨ai,ci,an,cn,h1,h2,h3,h4,h5,h6⟩:=h;exact⟨ai,ci,an,cn,nN hg h1,nN hg h2,nN hg h3,nN hg h4,h5.Z hg,h6.Z hg⟩
structure OJ(w:World)(g off:Nat)(t:M.Tn):Prop where
 k:w.cell? ⟨g,off,none⟩=some (.int .i64 t.af)
 h:w.cell? ⟨g,off+1,none⟩=some (.int .i64 t.h)
 v:w.cell? ⟨g,off+2,none⟩=some (.int .i64 t.w)
 c:w.cell? ⟨g,off+3,none⟩=some (.int .i64 t.c)
 z:w.cell? ⟨g,off+4,none⟩=some (.int .i64 t.zero)
structure tD(w:World)(b ga c1:Nat)(g:R.bX):Prop where
 q:w.cell? ⟨b,0,none⟩=some (.slice (some ⟨ga,0,none⟩) g.ts.length c1)
 t:∀(i:Nat) t,g.ts[i]?=some t->OJ w ga (i*6) t
theorem lB.TN{w:World}{b:Nat}{g:R.bX}(h:lB w b g)(hn:0<g.ts.length):∃ga c1,tD w b ga c1 g:=by
 obtain⟨a1,c1,a2,c2,a3,c3,h1,h2,h3,h4⟩:=h;obtain⟨t,ht⟩:∃t,g.ts[0]?=some t:=⟨_,aT hn⟩;obtain⟨ga,-,-,ha,-⟩:=h2.get 0 t ht;subst ha;refine⟨ga,c1,h1.cell 0,fun i t hi=>?_⟩;obtain⟨g',ao,cp,ha,-,-,-,d0,d1,d2,d3,d4,-⟩:=h2.get i t hi;injection ha with ha;injection ha with ha _ _;subst ha;exact⟨d0,d1,d2,d3,d4⟩
theorem R.nP{g:R.bX}{i:Nat}{t:M.Tn}(h:g.ts[i]?=some t):R.pK g (i:Int)=t:=by
 unfold R.pK;rw[ey,nU,h];rfl
end Go.Proofs.YtcnhfffgbamonabGreat
