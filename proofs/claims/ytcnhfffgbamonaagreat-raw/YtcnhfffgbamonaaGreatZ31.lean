import Derived.Test.YtcnhfffgbamonaaGreatZ30
set_option maxRecDepth 100000
set_option maxHeartbeats 6400000
namespace Go.Proofs.YtcnhfffgbamonaaGreat
open Go.Proofs.Tryz
open RowKit
namespace R
theorem aej{g:bX}{k:Nat}{t:M.Tn}(h:g.ts[k]?=some t):oK g k=t.af:=by
 unfold oK;rw[eC,oa,dV,h];rfl
theorem ase{g:bX}{n j:Nat}{t:Int}{o:Op}(h:g.ag[j]?=some o)(hj:j<n)(ho:o.out=t):Df g n t=true:=by
 unfold Df;rw[List.any_eq_true];refine⟨j,List.mem_range.2 hj,?_⟩;rw[h];simp[ho]
theorem asf{g:bX}{n:Nat}{t:Int}(h:∀(m:Nat) o,m<n->g.ag[m]?=some o->o.out≠t):Df g n t=false:=by
 unfold Df;rw[List.any_eq_false];intro m hm;have FL:=List.mem_range.1 hm
 cases ho:g.ag[m]? with
 |none=>simp
 |some o=>
  have:=h m o FL ho
  simpa using this
theorem aek{g:bX}{t:Int}{n:Nat}{ws bs:Bool}(h:(g.ts.length:Int)<=t):there g t n ws bs=false:=by unfold there;rw[ay h]
theorem asg{g:bX}{t:Int}{n:Nat}{ws bs:Bool}(h:¬(g.ts.length:Int)<=t)(h':(ws||bs)=true):there g t n ws bs=((ws&&oK g t==1)||(bs&&oK g t==2)):=by unfold there;rw[ak h,ay h']
theorem ash{g:bX}{t:Int}{n:Nat}(h:¬(g.ts.length:Int)<=t)(h':oK g t≠3):there g t n false false=(oK g t !=2):=by unfold there;rw[ak h,ak (by simp),ay h']
theorem asi{g:bX}{t:Int}{n:Nat}(h:¬(g.ts.length:Int)<=t)(h':oK g t=3):there g t n false false=Df g n t:=by unfold there;rw[ak h,ak (by simp),ak (by simpa using h')]
end R
theorem KT(b:Nat)(g:R.bX)(t n:Nat)(ws bs:Bool)(w:World)(h:lF w b g)(hw:EX g)(hn:n<=g.ag.length)(_ht:t<=255):
 Calls prog 112 #[.pointer (some ⟨b,0,none⟩),.int .i64 t,.int .i64 n,.bool ws,.bool bs] w fun e w'=>e=.returned (.bool (R.there g t n ws bs))/\w'=w:=by
 have iq:=hw.nt;have kl:=hw.no;have HW:=ae hw;obtain⟨a1,c1,a2,c2,a3,c3,hB,hT,hO,hU⟩:=h;have q0:w.cell? ⟨b,0,none⟩=some (.slice a1 g.ts.length c1):=hB.cell 0;have q1:w.cell? ⟨b,1,none⟩=some (.slice a2 g.ag.length c2):=hB.cell 1;have HO:=ae hO;have Hn:=ae hn;clear hB hO hU hw;by_cases Un:(g.ts.length:Int)<=(t:Int)
 ·have He:=ae (R.aek (n:=n) (ws:=ws) (bs:=bs) Un)
  go_enter func112,ntmps112;go_wp2;go_ret;exact⟨bB He.out.symm,rfl⟩
 ·have aJ:t<g.ts.length:=by omega
  obtain⟨tt,Uo⟩:∃tt,g.ts[t]?=some tt:=⟨_,aS aJ⟩;obtain⟨ga,ao,cp,rfl,-,-,-,d0,-,-,-,-,-⟩:=hT.get t tt Uo;have Hk:=ae (R.aej Uo);have Hf:=ae Un;clear Uo hT Un;by_cases Bs:(ws||bs)=true
  ·have He:=ae (R.asg (n:=n) Hf.out Bs)
   rw[Hk.out] at He;generalize tt.af=k at *
   cases k1:(k==1)<;>cases k2:(k==2)<;>cases ws<;>cases bs
   all_goals first
    |exact aN Bs (by decide)
    |(clear Bs;go_enter func112,ntmps112;go_wp2;go_ret;exact⟨bB (by rw[He.out,k1,k2];rfl),rfl⟩)
  ·have qR:ws=false:=by cases ws<;>simp_all
   have Fw:bs=false:=by cases bs<;>simp_all
   subst qR Fw;clear Bs;by_cases h3:tt.af=3
   ·have He:=ae (R.asi (n:=n) Hf.out (by rw[Hk.out];exact h3))
    have h3':(tt.af !=3)=false:=by simp[h3]
    clear h3 Hk;generalize tt.af=k at *;go_enter func112,ntmps112;go_wp2
    go_loop [12] (fun i=>∃j:Nat,Hid (j<=n)/\i=.int .i64 j/\Hid (∀(m:Nat) o,m<j->g.ag[m]?=some o->o.out≠t)) (fun i=>n-(intOf i).toNat)
    case atStart=>exact⟨0,bK _,rfl,fun m o hm=>aN hm (wT m)⟩
    case round=>
     obtain⟨j,Hj,rfl,oD⟩:=hrel;by_cases rz:j<n
     ·obtain⟨o,ho⟩:∃o,g.ag[j]?=some o:=⟨_,aS (by have:=Hn.out;omega)⟩
      obtain⟨go,ai,ci,an,cn,rfl,-,-,-,-,-,-,d2,-⟩:=HO.out.get j o ho;have Ho:=ae ho;have ko:j<g.ag.length:=by have:=Hn.out;omega
      clear ho
      cases hx:(o.out==(t:Int)) with
      |true=>
       have HN:=ae (show R.there g t n false false=true by rw[He.out];exact R.ase Ho.out rz (by simpa using hx));go_wp2;go_ret;exact⟨bB HN.out.symm,rfl⟩
      |false=>
       have asl:Hid (∀(m:Nat) o,m<j+1->g.ag[m]?=some o->o.out≠t):=fun m o' hm iM=>by
        rcases cE m j with h' |h'
        ·exact oD.out m o' h' iM
        ·obtain rfl:m=j:=by omega
         rw[Ho.out] at iM;injection iM with iM;subst iM
         simpa using hx
       go_wp2
       go_round
       case rel=>exact⟨j+1,(by unfold Hid;omega),by go_num,asl.out⟩
       case measure=>simp[intOf];omega
     ·obtain rfl:j=n:=by have:=Hj.out;omega
      have HN:=ae (show R.there g t j false false=false by rw[He.out];exact R.asf oD.out);go_wp2;go_ret;exact⟨bB HN.out.symm,rfl⟩
   ·have He:=ae (R.ash (n:=n) Hf.out (by rw[Hk.out];exact h3))
    rw[Hk.out] at He;have h3':(tt.af !=3)=true:=by simp[h3]
    clear h3 Hk;generalize tt.af=k at *;go_enter func112,ntmps112;go_wp2;go_ret;exact⟨bB He.out.symm,rfl⟩
theorem nV{w w':World}(hg:w.grownBy w' none){a:Addr}{v:Value}(h:w.cell? a=some v):w'.cell? a=some v:=by
 rw[World.cell?_of_block (hg.block a.block (ql w _ h) (by simp))];exact h
theorem lF.drewN{w:World}{b:Nat}{g:R.bX}(h:lF w b g)(n:Nat):lF (w.drewN n) b g:=h.Z (bE w n none)
namespace R
theorem KU{p:Nat->Bool}{n i:Nat}(hi:i<n)(h:p i=false):(List.range n).all p=false:=by
 rw[List.all_eq_false];exact⟨i,List.mem_range.2 hi,by simp[h]⟩
theorem KV{p:Nat->Bool}{n:Nat}(h:∀i,i<n->p i=true):(List.range n).all p=true:=by
 rw[jn];exact fun i hi=>h i (List.mem_range.1 hi)
def Dl(g:bX)(t:Nat):Bool:=((oK g t==3)==(count g t==1))&&!decide (1<count g t)
def zQ(g:bX)(i:Nat):Bool:=match g.ag[i]? with|some o=>Dg g i o|none=>true
def Bt(g:bX)(u:Int):Bool:=there g u g.ag.length false false
theorem KW(g:bX):pT g=((List.range g.ts.length).all (Dl g)&&(List.range g.ag.length).all (zQ g)&&g.aK.all (Bt g)):=rfl
theorem asm{g:bX}{t:Nat}(ht:t<g.ts.length)(h:Dl g t=false):pT g=false:=by
 rw[KW,KU ht h];rfl
theorem ael{g:bX}{i:Nat}(hi:i<g.ag.length)(h:zQ g i=false):pT g=false:=by
 rw[KW,KU hi h];simp
theorem asn{g:bX}{i:Nat}{u:Int}(hi:g.aK[i]?=some u)(h:Bt g u=false):pT g=false:=by
 have:g.aK.all (Bt g)=false:=by
  rw[List.all_eq_false];exact⟨u,bU hi,by simp[h]⟩
 rw[KW,this];simp
theorem aso{g:bX}(h1:∀t,t<g.ts.length->Dl g t=true)(h2:∀i,i<g.ag.length->zQ g i=true)(h3:∀(i:Nat) u,g.aK[i]?=some u->Bt g u=true):pT g=true:=by
 have:g.aK.all (Bt g)=true:=by
  rw[jn];intro u hu;obtain⟨i,hi⟩:=mQ hu;exact h3 i u hi
 rw[KW,KV h1,KV h2,this];rfl
def cy(g:bX)(t:Int)(i:Nat):Nat:=((g.ag.take i).filter fun o=>o.out==t).length
theorem asp(g:bX)(t:Int):cy g t g.ag.length=count g t:=by unfold cy count;rw[jm]
theorem asq{g:bX}{t:Int}{i:Nat}{o:Op}(h:g.ag[i]?=some o)(ho:(o.out==t)=true):cy g t (i+1)=cy g t i+1:=by
 unfold cy;rw[L8 h,List.filter_append,nJ];simp[ho]
theorem M8{g:bX}{t:Int}{i:Nat}{o:Op}(h:g.ag[i]?=some o)(ho:(o.out==t)=false):cy g t (i+1)=cy g t i:=by
 unfold cy;rw[L8 h,List.filter_append,nJ];simp[ho]
theorem asr(g:bX)(t:Int)(i:Nat):cy g t i<=i:=by
 unfold cy;exact jN (List.length_filter_le _ _) (by simp;omega)
def uY(g:bX)(i:Nat)(o:Op)(k:Nat):Bool:=there g (o.ins.getD k 0) i (o.ins.length==3&&k==1) (o.ins.length==3&&k==2)
theorem Pg(g:bX)(i:Nat)(o:Op):Dg g i o=(decide (o.out<g.ts.length)&&(List.range o.ins.length).all (uY g i o)):=rfl
theorem Ph{g:bX}{i:Nat}{o:Op}(h:g.ag[i]?=some o):zQ g i=Dg g i o:=by unfold zQ;rw[h]
theorem ass{g:bX}{i:Nat}{o:Op}(h:g.ag[i]?=some o)(ho:¬o.out<g.ts.length):zQ g i=false:=by
 rw[Ph h,Pg,eE ho];rfl
theorem ast{g:bX}{i k:Nat}{o:Op}(h:g.ag[i]?=some o)(hk:k<o.ins.length)(ho:uY g i o k=false):zQ g i=false:=by
 rw[Ph h,Pg,KU hk ho];simp
theorem asu{g:bX}{i:Nat}{o:Op}(h:g.ag[i]?=some o)(h1:o.out<g.ts.length)(h2:∀k,k<o.ins.length->uY g i o k=true):zQ g i=true:=by
 rw[Ph h,Pg,eG h1,KV h2];rfl
end R
theorem asv(b:Nat)(g:R.bX)(w:World)(h:lF w b g)(hw:EX g):
 Calls prog 71 #[.pointer (some ⟨b,0,none⟩)] w fun e w'=>e=.returned (.bool (R.pT g))/\w.grownBy w' none:=by
 have iq:=hw.nt;have kl:=hw.no;have BN:=hw.nu;have HW:=ae hw;have zM:=ae h;obtain⟨a1,c1,a2,c2,a3,c3,hB,hT,hO,hU⟩:=h;have HB:=ae hB;have HT:=ae hT;have HO:=ae hO;have HU:=ae hU;clear hB hT hO hU hw;go_enter func71,ntmps71;go_wp2;go_loopw[3] (fun i wr=>∃j:Nat,Hid (j<=g.ts.length)/\i=.int .i64 j/\Hid (∀t,t<j->R.Dl g t=true)/\w.grownBy wr none) (fun i _=>g.ts.length-(intOf i).toNat)
 case atStart=>exact⟨0,bK _,rfl,(fun t ht=>aN ht (wT t)),fZ _ _⟩
 case round=>
  obtain⟨j,Hj,rfl,HA,bO⟩:=hrel;have eP:=HB.out.kept bO (by simp);have q0:wr.cell? ⟨b,0,none⟩=some (.slice a1 g.ts.length c1):=eP.cell 0;have q1:wr.cell? ⟨b,1,none⟩=some (.slice a2 g.ag.length c2):=eP.cell 1;have cV:=ae bO;by_cases aJ:j<g.ts.length
  ·have hOj:=ae (HO.out.Z bO)
   obtain⟨t,ht⟩:∃t,g.ts[j]?=some t:=⟨_,aS aJ⟩;obtain⟨ga,ao,cp,ea,-,-,-,d0,-⟩:=(HT.out.Z bO).get j t ht;have Hk:=ae (R.aej ht);have dW:=ae aJ;clear ht eP bO;subst ea;obtain⟨qr,sD⟩:∃q,Hid (q=wr):=⟨_,rfl⟩;go_wp2;go_loopw[4,5] (fun n i wp=>∃m:Nat,Hid (m<=g.ag.length)/\i=.int .i64 m/\n=.int .i64 (R.cy g j m)/\wp=qr) (fun _ i _=>g.ag.length-(intOf i).toNat)
   case atStart=>exact⟨0,bK _,rfl,rfl,sD.out.symm⟩
   case round=>
    obtain⟨m,Hm,rfl,rfl,xR⟩:=hrel;rw[sD.out] at xR;subst xR;have kz:=R.asr g j m;by_cases hm:m<g.ag.length
    ·obtain⟨o,ho⟩:∃o,g.ag[m]?=some o:=⟨_,aS hm⟩
     obtain⟨go,ai,ci,an,cn,eo,-,-,-,-,-,-,d2,-⟩:=hOj.out.get m o ho;subst eo;have Ho:=ae ho;clear ho
     cases hx:(o.out==(j:Int)) with
     |true=>
      have Hc:=ae (R.asq Ho.out hx);generalize R.cy g j m=n at *;go_wp2;go_roundw
      case rel=>exact⟨m+1,(by unfold Hid;omega),by go_num,by rw[Hc.out];go_num,sD.out.symm⟩
      case measure=>simp[intOf];omega
     |false=>
      have Hc:=ae (R.M8 Ho.out hx);generalize R.cy g j m=n at *;go_wp2;go_roundw
      case rel=>exact⟨m+1,(by unfold Hid;omega),by go_num,by rw[Hc.out],sD.out.symm⟩
      case measure=>simp[intOf];omega
    ·obtain rfl:m=g.ag.length:=by have:=Hm.out;omega
     have Hc:=ae (R.asp g j);rw[Hc.out] at kz ⊢;have sr:=ae (show R.Dl g j=(((t.af==3)==(R.count g j==1))&&!decide (1<R.count g j)) by unfold R.Dl;rw[Hk.out]);have xL:R.count g j<=255:=by omega
     have Ge:=ae (show(R.count g j==1)=(((R.count g j:Nat):Int)==1) by cases h:(((R.count g j:Nat):Int)==1)<;>simp at h ⊢<;>omega);rw[Ge.out] at sr;have Up:=ae (fun h=>R.asm (g:=g) (t:=j) dW.out h);have mW:Hid (R.Dl g j=true->∀t,t<j+1->R.Dl g t=true):=fun h t ht=>by
      rcases cE t j with h' |h'
      ·exact HA.out t h'
      ·obtain rfl:t=j:=by omega
       exact h
     clear kz Hc Hm hm Ge;generalize R.count g j=n at *
     cases k3:(t.af==3)<;>cases n1:((n:Int)==1)
     ·by_cases GI:1<n
      ·have hb:decide ((n:Int) > 1)=true:=eG (by omega)
       have HN:=ae (Up.out (by rw[sr.out,k3,n1,eG GI];rfl));clear GI;go_wp2;go_ret;exact⟨bB HN.out.symm,cV.out⟩
      ·have hb:decide ((n:Int) > 1)=false:=eE (by omega)
       have mX:=ae (mW.out (by rw[sr.out,k3,n1,eE GI];rfl));clear GI;go_wp2;go_roundw
       case rel=>exact⟨j+1,(by have:=dW.out;unfold Hid;omega),by go_num,mX.out,cV.out⟩
       case measure=>have:=dW.out;simp[intOf];omega
     ·have HN:=ae (Up.out (by rw[sr.out,k3,n1];rfl))
      go_wp2;go_ret;exact⟨bB HN.out.symm,cV.out⟩
     ·have HN:=ae (Up.out (by rw[sr.out,k3,n1];rfl))
      go_wp2;go_ret;exact⟨bB HN.out.symm,cV.out⟩
     ·have asx:(n:Int)=1:=by simpa using n1
      have aem:n=1:=by omega
      clear asx;have hb:decide ((n:Int) > 1)=false:=eE (by omega);have mX:=ae (mW.out (by rw[sr.out,k3,n1,aem];rfl));clear aem;go_wp2;go_roundw
      case rel=>exact⟨j+1,(by have:=dW.out;unfold Hid;omega),by go_num,mX.out,cV.out⟩
      case measure=>have:=dW.out;simp[intOf];omega
  ·obtain rfl:j=g.ts.length:=by have:=Hj.out;omega
   clear aJ eP bO q1;go_wp2;clear q0;go_loopw[6] (fun i wr=>∃j:Nat,Hid (j<=g.ag.length)/\i=.int .i64 j/\Hid (∀t,t<j->R.zQ g t=true)/\w.grownBy wr none) (fun i _=>g.ag.length-(intOf i).toNat)
   case atStart=>exact⟨0,bK _,rfl,(fun t ht=>aN ht (wT t)),cV.out⟩
   case round=>
    clear cV;obtain⟨i,Hi,rfl,mX,bO⟩:=hrel;have eP:=HB.out.kept bO (by simp);have q0:wr.cell? ⟨b,0,none⟩=some (.slice a1 g.ts.length c1):=eP.cell 0;have q1:wr.cell? ⟨b,1,none⟩=some (.slice a2 g.ag.length c2):=eP.cell 1;have cV:=ae bO;by_cases aJ:i<g.ag.length
    ·obtain⟨o,ho⟩:∃o,g.ag[i]?=some o:=⟨_,aS aJ⟩
     obtain⟨go,ai,ci,an,cn,eo,-,-,Jk,-,-,d1,d2,-⟩:=(HO.out.Z bO).get i o ho;subst eo;have Ho:=ae ho;have dW:=ae aJ;have wo:=HW.out.os o (bU ho);have Bu:=ae wo;have fq:(o.ins.length:Int)<=3:=by rw[wo.inl];exact(R.KK o.af wo.af).1.2
     have o0:=wo.Pd;have o1:=wo.arN;have Jl:=ae Jk;clear ho wo eP bO Jk;by_cases zR:o.out<g.ts.length
     ·have Bc:decide (o.out>=(g.ts.length:Int))=false:=eE (by omega)
      have SQ:=ae zR;clear zR;go_wp2;go_quiet(fail);have ke:=ae (aC cV.out (bE wr nq none));have gd:=bE wr nq none;have tA:=ae (Jl.out.Z gd);have Hd1:=ae (nV gd d1);have Hq1:=ae (nV gd q1);clear gd d1 d2 q0 q1 cV Jl Bc;generalize wr.drewN nq=wd at *;have dd1:=Hd1.out;go_wp2;clear dd1;go_loopw[8] (fun v wr=>∃k:Nat,Hid (k<=o.ins.length)/\v=.int .i64 k/\Hid (∀m,m<k->R.uY g i o m=true)/\wd.grownBy wr none) (fun v _=>o.ins.length-(intOf v).toNat)
      case atStart=>exact⟨0,bK _,rfl,(fun t ht=>aN ht (wT t)),fZ _ _⟩
      case round=>
       obtain⟨k,Hk,rfl,rn,aF⟩:=hrel;have d1:=nV aF Hd1.out;have bH:=ae (aC ke.out aF);have jK:=ae aF;by_cases pz:k<o.ins.length
       ·obtain⟨x,hx⟩:∃x,o.ins[k]?=some x:=⟨_,aS pz⟩
        obtain⟨gi,ei,-,-,dx⟩:=(tA.out.Z aF).get k x hx;subst ei;have bx:=Bu.out.ins x (bU hx);obtain⟨tn,rfl⟩:=fT bx.1;have btn:(tn:Int)<=255:=bx.2;have yo:=zM.out.Z bH.out;have HX:=ae (show R.uY g i o k=R.there g tn i (o.ins.length==3&&k==1) (o.ins.length==3&&k==2) by unfold R.uY;rw[oa,hx];rfl);have lW:=ae pz;have m8:Hid (R.uY g i o k=true->∀m,m<k+1->R.uY g i o m=true):=fun h m hm=>by
         rcases cE m k with h' |h'
         ·exact rn.out m h'
         ·obtain rfl:m=k:=by omega
          exact h
        have po:=ae (fun h=>R.ael (g:=g) dW.out (R.ast Ho.out lW.out h));clear hx bx aF rn;have Dm:i<=g.ag.length:=by have:=dW.out;omega
        have asA:(((o.ins.length:Int)==3)=false/\(o.ins.length==3)=false)\/(((o.ins.length:Int)==3)=true/\(o.ins.length==3)=true/\k=0)\/(((o.ins.length:Int)==3)=true/\(o.ins.length==3)=true/\k=1)\/(((o.ins.length:Int)==3)=true/\(o.ins.length==3)=true/\k=2):=by
         by_cases h3:o.ins.length=3
         ·rcases(show k=0\/k=1\/k=2 by omega) with h|h|h
          ·exact .inr (.inl ⟨by simp[h3],by simp[h3],h⟩)
          ·exact .inr (.inr (.inl ⟨by simp[h3],by simp[h3],h⟩))
          ·exact .inr (.inr (.inr ⟨by simp[h3],by simp[h3],h⟩))
         ·exact .inl ⟨by simp;omega,by simp[h3]⟩
        rcases asA with⟨l1,l2⟩|⟨l1,l2,rfl⟩|⟨l1,l2,rfl⟩|⟨l1,l2,rfl⟩
        ·have HY:=ae (show R.uY g i o k=R.there g tn i false false by rw[HX.out,l2];rfl)
         have HC:=ae (fun nd=>KT b g tn i false false (wr.drewN nd) (yo.drewN nd) HW.out Dm (by omega));clear HX l2 yo Dm;rw[HY.out] at m8 po;generalize R.there g tn i false false=jL at *;go_wp2_with fail;go_quiet(exact mU (HC.out _));have oI:=ae (aC bH.out (bE wr nq none));have EZ:=ae (aC jK.out (bE wr nq none));clear HC d1 dx bH jK;generalize wr.drewN nq=we at *
         cases jL with
         |false=>
          have HN:=ae (po.out rfl);go_wp2;go_ret;exact⟨bB HN.out.symm,oI.out⟩
         |true=>
          have mY:=ae (m8.out rfl);go_wp2;go_roundw
          case rel=>exact⟨k+1,(by have:=lW.out;unfold Hid;omega),by go_num,mY.out,EZ.out⟩
          case measure=>have:=lW.out;simp[intOf];omega
        ·have HY:=ae (show R.uY g i o 0=R.there g tn i false false by rw[HX.out,l2];rfl)
         have HC:=ae (fun nd=>KT b g tn i false false (wr.drewN nd) (yo.drewN nd) HW.out Dm (by omega));clear HX l2 yo Dm;rw[HY.out] at m8 po;generalize R.there g tn i false false=jL at *;go_wp2_with fail;go_quiet(exact mU (HC.out _));have oI:=ae (aC bH.out (bE wr nq none));have EZ:=ae (aC jK.out (bE wr nq none));clear HC d1 dx bH jK;generalize wr.drewN nq=we at *
         cases jL with
         |false=>
          have HN:=ae (po.out rfl);go_wp2;go_ret;exact⟨bB HN.out.symm,oI.out⟩
         |true=>
          have mY:=ae (m8.out rfl);go_wp2;go_roundw
          case rel=>exact⟨0+1,(by have:=lW.out;unfold Hid;omega),by go_num,mY.out,EZ.out⟩
          case measure=>have:=lW.out;simp[intOf];omega
        ·have HY:=ae (show R.uY g i o 1=R.there g tn i true false by rw[HX.out,l2];rfl)
         have HC:=ae (fun nd=>KT b g tn i true false (wr.drewN nd) (yo.drewN nd) HW.out Dm (by omega));clear HX l2 yo Dm;rw[HY.out] at m8 po;generalize R.there g tn i true false=jL at *;go_wp2_with fail;go_quiet(exact mU (HC.out _));have oI:=ae (aC bH.out (bE wr nq none));have EZ:=ae (aC jK.out (bE wr nq none));clear HC d1 dx bH jK;generalize wr.drewN nq=we at *
         cases jL with
         |false=>
          have HN:=ae (po.out rfl);go_wp2;go_ret;exact⟨bB HN.out.symm,oI.out⟩
         |true=>
          have mY:=ae (m8.out rfl);go_wp2;go_roundw
          case rel=>exact⟨1+1,(by have:=lW.out;unfold Hid;omega),by go_num,mY.out,EZ.out⟩
          case measure=>have:=lW.out;simp[intOf];omega
        ·have HY:=ae (show R.uY g i o 2=R.there g tn i false true by rw[HX.out,l2];rfl)
         have HC:=ae (fun nd=>KT b g tn i false true (wr.drewN nd) (yo.drewN nd) HW.out Dm (by omega));clear HX l2 yo Dm;rw[HY.out] at m8 po;generalize R.there g tn i false true=jL at *;go_wp2_with fail;go_quiet(exact mU (HC.out _));have oI:=ae (aC bH.out (bE wr nq none));have EZ:=ae (aC jK.out (bE wr nq none));clear HC d1 dx bH jK;generalize wr.drewN nq=we at *
         cases jL with
         |false=>
          have HN:=ae (po.out rfl);go_wp2;go_ret;exact⟨bB HN.out.symm,oI.out⟩
         |true=>
          have mY:=ae (m8.out rfl);go_wp2;go_roundw
          case rel=>exact⟨2+1,(by have:=lW.out;unfold Hid;omega),by go_num,mY.out,EZ.out⟩
          case measure=>have:=lW.out;simp[intOf];omega
       ·obtain rfl:k=o.ins.length:=by have:=Hk.out;omega
        have mY:Hid (∀t,t<i+1->R.zQ g t=true):=fun t ht=>by
         rcases cE t i with h' |h'
         ·exact mX.out t h'
         ·obtain rfl:t=i:=by omega
          exact R.asu Ho.out SQ.out rn.out
        clear pz aF;go_wp2;go_roundw
        case rel=>exact⟨i+1,(by have:=dW.out;unfold Hid;omega),by go_num,mY.out,bH.out⟩
        case measure=>have:=dW.out;simp[intOf];omega
     ·have Bc:decide (o.out>=(g.ts.length:Int))=true:=eG (by omega)
      have HN:=ae (R.ael dW.out (R.ass Ho.out zR));clear zR;go_wp2;go_quiet(fail);have ke:=ae (aC cV.out (bE wr nq none));clear d1 d2 q0 q1 cV Jl Bc;generalize wr.drewN nq=wd at *;go_wp2;go_ret;exact⟨bB HN.out.symm,ke.out⟩
    ·obtain rfl:i=g.ag.length:=by have:=Hi.out;omega
     clear aJ eP bO q0;go_wp2;clear q1;go_loopw[10] (fun i wr=>∃j:Nat,Hid (j<=g.aK.length)/\i=.int .i64 j/\Hid (∀(t:Nat) u,t<j->g.aK[t]?=some u->R.Bt g u=true)/\w.grownBy wr none) (fun i _=>g.aK.length-(intOf i).toNat)
     case atStart=>exact⟨0,bK _,rfl,(fun t u ht=>aN ht (wT t)),cV.out⟩
     case round=>
      clear cV;obtain⟨k,Hk,rfl,rn,bO⟩:=hrel;have eP:=HB.out.kept bO (by simp);have q1:wr.cell? ⟨b,1,none⟩=some (.slice a2 g.ag.length c2):=eP.cell 1;have q2:wr.cell? ⟨b,2,none⟩=some (.slice a3 g.aK.length c3):=eP.cell 2;have cV:=ae bO;by_cases aJ:k<g.aK.length
      ·obtain⟨u,hu⟩:∃u,g.aK[k]?=some u:=⟨_,aS aJ⟩
       obtain⟨gu,eu,-,-,du⟩:=(HU.out.Z bO).get k u hu;subst eu;have bu:=HW.out.us u (bU hu);obtain⟨tn,rfl⟩:=fT bu.1;have btn:(tn:Int)<=255:=bu.2;have yo:=zM.out.Z bO;have HX:=ae (show R.Bt g tn=R.there g tn g.ag.length false false from rfl);have HC:=ae (fun nd=>KT b g tn g.ag.length false false (wr.drewN nd) (yo.drewN nd) HW.out (bj _) (by omega));have dW:=ae aJ;have m8:Hid (R.Bt g tn=true->∀(t:Nat) u,t<k+1->g.aK[t]?=some u->R.Bt g u=true):=fun h m u' hm uA=>by
        rcases cE m k with h' |h'
        ·exact rn.out m u' h' uA
        ·obtain rfl:m=k:=by omega
         rw[hu] at uA;injection uA with uA;subst uA;exact h
       have po:=ae (fun h=>R.asn (g:=g) hu h);rw[HX.out] at m8 po;clear hu bu yo bO eP rn HX;generalize R.there g tn g.ag.length false false=jL at *;go_wp2_with fail;go_quiet(exact mU (HC.out _));have oI:=ae (aC cV.out (bE wr nq none));clear HC q1 q2 du cV;generalize wr.drewN nq=we at *
       cases jL with
       |false=>
        have HN:=ae (po.out rfl);go_wp2;go_ret;exact⟨bB HN.out.symm,oI.out⟩
       |true=>
        have mY:=ae (m8.out rfl);go_wp2;go_roundw
        case rel=>exact⟨k+1,(by have:=dW.out;unfold Hid;omega),by go_num,mY.out,oI.out⟩
        case measure=>have:=dW.out;simp[intOf];omega
      ·obtain rfl:k=g.aK.length:=by have:=Hk.out;omega
       have HN:=ae (R.aso HA.out mX.out (fun m u hu=>rn.out m u (by
        rcases cE m g.aK.length with h' |h'
        ·exact h'
        ·rw[db h'] at hu;exact aN hu (by simp)) hu))
       clear aJ eP bO;go_wp2;go_ret;exact⟨bB HN.out.symm,cV.out⟩
theorem yp{P:Program}{f:FuncId}{args:Array Value}{w:World}{k n:Nat}{v:Value}(h:Calls P f args (w.drewN (k+n)) fun e w'=>e=.returned v/\w'=w.drewN (k+n)):Calls P f args (w.drewN (k+n)) fun e qY=>e=.returned v/\∃m,qY=w.drewN (k+m):=
 h.mono fun _ _ ⟨he,hm⟩=>⟨he,n,hm⟩
def j6(w:World)(p off:Nat)(o:R.Op):Prop:=
 ∃ai ci an cn,w.cell? ⟨p,off,none⟩=some (.int .i64 o.af)/\w.cell? ⟨p,off+1,none⟩=some (.slice ai o.ins.length ci)/\w.cell? ⟨p,off+2,none⟩=some (.int .i64 o.out)/\w.cell? ⟨p,off+3,none⟩=some (.slice an o.cO.length cn) /\
  aZ w 0 (.slice ai o.ins.length ci) o.ins/\aZ w 0 (.slice an o.cO.length cn) o.cO
theorem pk.bN{w:World}{base:Nat}{a:Option Addr}{n c:Nat}{os:List R.Op}(h:pk w base (.slice a n c) os)(i:Nat)(o:R.Op)(hi:os[i]?=some o):
 ∃g,a=some ⟨g,0,none⟩/\n=os.length/\j6 w g (i*4) o:=by
 obtain⟨g,ai,ci,an,cn,ha,hn,-,hI,hN,d0,d1,d2,d3⟩:=h.get i o hi;exact⟨g,ha,hn,ai,ci,an,cn,d0,d1,d2,d3,hI.mono (bK _),hN.mono (bK _)⟩
theorem j6.Z{w w':World}{p off:Nat}{o:R.Op}(h:j6 w p off o)(hg:w.grownBy w' none):j6 w' p off o:=by
 obtain⟨ai,ci,an,cn,h1,h2,h3,h4,h5,h6⟩:=h;exact⟨ai,ci,an,cn,nV hg h1,nV hg h2,nV hg h3,nV hg h4,h5.Z hg,h6.Z hg⟩
structure Pj(w:World)(g off:Nat)(t:M.Tn):Prop where
 k:w.cell? ⟨g,off,none⟩=some (.int .i64 t.af)
 h:w.cell? ⟨g,off+1,none⟩=some (.int .i64 t.h)
 v:w.cell? ⟨g,off+2,none⟩=some (.int .i64 t.w)
 c:w.cell? ⟨g,off+3,none⟩=some (.int .i64 t.c)
 z:w.cell? ⟨g,off+4,none⟩=some (.int .i64 t.zero)
structure tQ(w:World)(b ga c1:Nat)(g:R.bX):Prop where
 q:w.cell? ⟨b,0,none⟩=some (.slice (some ⟨ga,0,none⟩) g.ts.length c1)
 t:∀(i:Nat) t,g.ts[i]?=some t->Pj w ga (i*6) t
theorem lF.Uq{w:World}{b:Nat}{g:R.bX}(h:lF w b g)(hn:0<g.ts.length):∃ga c1,tQ w b ga c1 g:=by
 obtain⟨a1,c1,a2,c2,a3,c3,h1,h2,h3,h4⟩:=h;obtain⟨t,ht⟩:∃t,g.ts[0]?=some t:=⟨_,aS hn⟩;obtain⟨ga,-,-,ha,-⟩:=h2.get 0 t ht;subst ha;refine⟨ga,c1,h1.cell 0,fun i t hi=>?_⟩;obtain⟨g',ao,cp,ha,-,-,-,d0,d1,d2,d3,d4,-⟩:=h2.get i t hi;injection ha with ha;injection ha with ha _ _;subst ha;exact⟨d0,d1,d2,d3,d4⟩
theorem R.nX{g:R.bX}{i:Nat}{t:M.Tn}(h:g.ts[i]?=some t):R.pV g (i:Int)=t:=by
 unfold R.pV;rw[eC,oa,h];rfl
end Go.Proofs.YtcnhfffgbamonaaGreat
