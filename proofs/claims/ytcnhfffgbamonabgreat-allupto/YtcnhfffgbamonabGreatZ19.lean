import Derived.Laws.CopyOwn
import Derived.Test.YtcnhfffgbamonabGreatZ18
set_option maxRecDepth 100000
set_option maxHeartbeats 6400000
namespace Go.Proofs.YtcnhfffgbamonabGreat
open Go.Proofs.Tryz
open Go.RowKit
def Sl(w:World)(v:Value)(l:List Int):Prop:=
 ∃(ao:Option Addr) (c:Nat),v=.slice ao l.length c/\∀(i:Nat) x,l[i]?=some x->∃a,ao=some a/\w.cell? (a.add i)=some (.int .i64 x)
theorem Sl.Z{w w':World}{v:Value}{l:List Int}(h:Sl w v l)(hg:w.grownBy w' none):Sl w' v l:=by
 obtain⟨ao,c,e,h⟩:=h;exact⟨ao,c,e,fun i x hx=>by obtain⟨a,ea,ha⟩:=h i x hx;exact⟨a,ea,aG hg ha⟩⟩
theorem Sl.len{w:World}{ao:Option Addr}{n c:Nat}{l:List Int}(h:Sl w (.slice ao n c) l):n=l.length:=by
 obtain⟨_,_,e,_⟩:=h;injection e with _ e _
theorem Sl.get{w:World}{ao:Option Addr}{n c:Nat}{l:List Int}(h:Sl w (.slice ao n c) l)(i:Nat)(x:Int)(hx:l[i]?=some x):∃a,ao=some a/\w.cell? (a.add i)=some (.int .i64 x):=by
 obtain⟨_,_,e,h⟩:=h;injection e with e _ _;subst e;exact h i x hx
theorem aZ.sl{w:World}{B:Nat}{ao:Option Addr}{n c:Nat}{l:List Int}(h:aZ w B (.slice ao n c) l):Sl w (.slice ao n c) l:=by
 have hn:=h.len;subst hn;refine⟨ao,c,rfl,fun i x hx=>?_⟩;obtain⟨g,rfl,-,-,d⟩:=h.get i x hx;have e:(⟨g,0,none⟩:Addr).add i=⟨g,i,none⟩:=by unfold Addr.add;split<;>simp_all
 exact⟨_,rfl,by rw[e];exact d⟩
def rQ(w:World)(v:Value)(ls:List (List Int)):Prop:=
 ∃(ao:Option Addr) (c:Nat),v=.slice ao ls.length c/\∀(i:Nat) l,ls[i]?=some l->∃a b c',ao=some a/\w.cell? (a.add i)=some (.slice b l.length c')/\Sl w (.slice b l.length c') l
theorem rQ.Z{w w':World}{v:Value}{ls:List (List Int)}(h:rQ w v ls)(hg:w.grownBy w' none):rQ w' v ls:=by
 obtain⟨ao,c,e,h⟩:=h;exact⟨ao,c,e,fun i x hx=>by obtain⟨a,b,c',ea,ha,hs⟩:=h i x hx;exact⟨a,b,c',ea,aG hg ha,hs.Z hg⟩⟩
theorem rQ.len{w:World}{ao:Option Addr}{n c:Nat}{ls:List (List Int)}(h:rQ w (.slice ao n c) ls):n=ls.length:=by
 obtain⟨_,_,e,_⟩:=h;injection e with _ e _
theorem rQ.get{w:World}{ao:Option Addr}{n c:Nat}{ls:List (List Int)}(h:rQ w (.slice ao n c) ls)(i:Nat)(l:List Int)(hl:ls[i]?=some l):∃a b c',ao=some a/\w.cell? (a.add i)=some (.slice b l.length c')/\Sl w (.slice b l.length c') l:=by
 obtain⟨_,_,e,h⟩:=h;injection e with e _ _;subst e;exact h i l hl
theorem Ns{l:List Int}{k:Nat}{v:Int}(h:l[k]?=some v)(hv:D.lg v=false):l.all D.lg=false:=by
 rw[List.all_eq_false];exact⟨v,bV h,by rw[hv];decide⟩
theorem YW{l:List Int}(h:∀(j:Nat) v,l[j]?=some v->D.lg v=true):l.all D.lg=true:=by
 rw[jg];intro v hv;obtain⟨j,hj⟩:=mM hv;exact h j v hj
theorem amS(a:Option Addr)(n c:Nat)(l:List Int)(w:World)(hI:Sl w (.slice a n c) l)(hl:l.length<=9223372036854775807) :
  Calls prog 63 #[.slice a n c] w fun e w'=>e=.returned (.bool (l.all D.lg))/\w'=w:=by
 obtain rfl:=hI.len;go_enter func63,ntmps63;go_wp2;go_loopw[7] (fun i wr=>∃k:Nat,k<=l.length/\i=.int .i64 k/\Hid (∀(j:Nat) v,j<k->l[j]?=some v->D.lg v=true)/\wr=w) (fun i _=>l.length-(intOf i).toNat)
 case atStart=>exact⟨0,bK _,rfl,fun j v hj=>aN hj (by omega),rfl⟩
 case round=>
  obtain⟨k,hk,rfl,jU,rfl⟩:=hrel;by_cases aK:k<l.length
  ·obtain⟨v,hv⟩:∃v,l[k]?=some v:=⟨_,aT aK⟩
   obtain⟨g,rfl,d0⟩:=hI.get k v hv;have Hv:=ae hv;clear hv hI;by_cases h1:v < -128
   ·have He:=ae (Ns Hv.out (by unfold D.lg;rw[show decide (-128<=v)=false from by simp;omega];rfl))
    go_wp2;go_ret;exact⟨bq He.out.symm,rfl⟩
   ·by_cases h2:127<v
    ·have He:=ae (Ns Hv.out (by unfold D.lg;rw[show decide (v<=127)=false from by simp;omega];simp))
     go_wp2;go_ret;exact⟨bq He.out.symm,rfl⟩
    ·have fg:Hid (∀(j:Nat) u,j<k+1->l[j]?=some u->D.lg u=true):=fun j u hj hu=>by
      rcases cF j k with h' | h'
      ·exact jU.out j u h' hu
      ·obtain rfl:j=k:=by omega
       rw[Hv.out] at hu;injection hu with hu;subst hu;unfold D.lg;simp;omega
     go_wp2;go_roundw
     case rel=>exact⟨k+1,by omega,by go_num,fg.out,trivial⟩
     case measure=>simp[intOf];omega
  ·obtain rfl:k=l.length:=by omega
   have He:=ae (YW fun j v hv=>jU.out j v (by
    rcases cF j l.length with h' | h'
    ·exact h'
    ·rw[cX h'] at hv;exact aN hv (by simp)) hv)
   clear hI;go_wp2;go_ret;exact⟨bq He.out.symm,rfl⟩
theorem YX{md:M.Md}{ins:List (List Int)}(h:ins.length≠(gk md.au).length):D.jM md ins=false:=by
 unfold D.jM;rw[show((ins.map fun l=>(l.length:Int))==D.BK md)=false from by
  rw[beq_eq_false_iff_ne];intro e;have:=congrArg List.length e;rw[jh] at this;exact h this]
 rfl
theorem YY{md:M.Md}{ins:List (List Int)}{k:Nat}{l:List Int}{x:Int}(h:ins[k]?=some l)(hx:(gk md.au)[k]?=some x)(eF:(l.length:Int)≠x):D.jM md ins=false:=by
 unfold D.jM;rw[show((ins.map fun l=>(l.length:Int))==D.BK md)=false from by
  rw[beq_eq_false_iff_ne];intro e;have:=congrArg (fun q=>q[k]?) e;simp only[dY,h] at this;rw[show(D.BK md)[k]?=some x from hx] at this;injection this with this;exact eF this]
 rfl
theorem RO{md:M.Md}{ins:List (List Int)}{k:Nat}{l:List Int}(h:ins[k]?=some l)(eF:l.all D.lg=false):D.jM md ins=false:=by
 unfold D.jM;rw[show(ins.all fun l=>l.all D.lg)=false from by
  rw[List.all_eq_false];exact⟨l,bV h,by rw[eF];decide⟩]
 simp
theorem YZ{md:M.Md}{ins:List (List Int)}(hl:ins.length=(gk md.au).length)(h:∀(k:Nat) l x,ins[k]?=some l->(gk md.au)[k]?=some x->(l.length:Int)=x/\l.all D.lg=true):D.jM md ins=true:=by
 have cK:∀(k:Nat) l,ins[k]?=some l->∃x,(gk md.au)[k]?=some x:=by
  intro k l hk;have aK:k<ins.length:=by
   rcases cF k ins.length with h' | h'
   ·exact h'
   ·rw[cX h'] at hk;exact aN hk (by simp)
  exact⟨_,aT (by omega)⟩
 unfold D.jM;rw[fh,beq_iff_eq,jg];refine⟨?_,fun l hm=>?_⟩
 ·apply nF
  intro k;rw[dY];show _=(gk md.au)[k]?
  cases hk:ins[k]? with
  | none=>
   have:ins.length<=k:=List.getElem?_eq_none_iff.mp hk;rw[cX (by omega)];rfl
  | some l=>
   obtain⟨x,hx⟩:=cK k l hk;rw[hx,Option.map_some,(h k l x hk hx).1]
 ·obtain⟨k,hk⟩:=mM hm
  obtain⟨x,hx⟩:=cK k l hk;exact(h k l x hk hx).2
def iX(md:M.Md)(n:Int):Int:=if n<0\/((pD md).aW.length:Int)<=n then -1 else (pD md).aW.getD n.toNat 0
theorem Nt(p:Nat)(md:M.Md)(n:Int)(w:World)(hP:Pl w p md) :
  Calls prog 39 #[.pointer (some ⟨p,0,none⟩),.int .i64 n] w fun e w'=>e=.returned (.int .i64 (iX md n))/\w'=w:=by
 obtain⟨m,an,cn,ab,cb,-,-,hB,-,hN,-,-,h1⟩:=hP;have q2:w.cell? ⟨p,2,none⟩=some (.slice an (pD md).aW.length cn):=hB.cell 2;have s8:=hB.lt;clear hB h1;by_cases h0:n<0
 ·have He:=ae (show iX md n = -1 by unfold iX;rw[ay (.inl h0)])
  clear hN;go_enter func39,ntmps39;go_wp2;go_ret;exact⟨cE He.out.symm,rfl⟩
 ·by_cases h1:((pD md).aW.length:Int)<=n
  ·have He:=ae (show iX md n = -1 by unfold iX;rw[ay (.inr h1)])
   clear hN;go_enter func39,ntmps39;go_wp2;go_ret;exact⟨cE He.out.symm,rfl⟩
  ·obtain⟨k,rfl⟩:=fR (show 0<=n by omega)
   obtain⟨b,hb⟩:∃b,(pD md).aW[k]?=some b:=⟨_,aT (by omega)⟩;obtain⟨g,rfl,-,-,d0⟩:=hN.get k b hb;have He:=ae (show iX md k=b by unfold iX;rw[ak (by omega),ey,getD_some hb]);clear hb hN;go_enter func39,ntmps39;go_wp2;go_ret;exact⟨cE He.out.symm,rfl⟩
theorem RP{md:M.Md}(h:O.iN md):H.mO md.au (pM md).au:=by
 obtain⟨C,S⟩:=H.MU h;exact H.Xh S
theorem Cp{md:M.Md}(h:O.iN md):H.fN (pM md)=(gk md.au).length:=by
 rw[H.Mz,(RP h).cy,(RP h).1];unfold H.cy gk;rw[jo,jh]
 rfl
theorem Nu:∀{ts:List M.Tn} {n:Nat} {t:M.Tn},ts[n]?=some t->t.af=0->(gk ts)[H.cy ts n]?=some (M.cellsOf t)
 | [],n,t,h,_=>aN h (by simp)
 | u::ts,0,t,h,h0=>by
  simp at h;subst h;unfold gk H.cy;simp[h0]
 | u::ts,n+1,t,h,h0=>by
  have ih:=Nu (ts:=ts) (n:=n) (by simpa using h) h0;unfold gk H.cy at *;rw[List.take_succ_cons,List.filter_cons,List.filter_cons];by_cases c:u.af=0
  ·have c':H.qb u=true:=by unfold H.qb;simp[c]
   rw[ay (by simp[c]),ay c']
   simpa using ih
  ·have c':¬H.qb u=true:=by unfold H.qb;simp[c]
   rw[ak (by simp[c]),ak c'];exact ih
theorem amT{md:M.Md}(h:O.iN md):gk (pM md).au=gk md.au:=(RP h).filter
theorem Y0{md:M.Md}(h:O.iN md){i:Nat}{x:Int}(hx:(gk md.au)[i]?=some x):∃b,(pB md)[i]?=some b/\b.c=x/\i<H.fN (pM md):=by
 obtain⟨C,S⟩:=Fq h;have A:=H.Fg S;have hi:i<H.fN (pM md):=by rw[Cp h];exact M.bP hx
 obtain⟨n,t,hn,k0,e⟩:=A.P.l0 i hi;have hb:=A.P.n0 n t hn k0;have dh:=A.P.lt (M.bP hn) hb.1;rw[e] at hb dh;have hl:i<(pB md).length:=by rw[show(pB md).length=(pD md).lv.length from A.L.len];exact dh
 refine⟨_,aT hl,?_,hi⟩;have e1:((pB md).getD i H.aV).c=((pD md).lv.getD i H.bQ).c:=A.L.c i dh;rw[getD_some (aT hl)] at e1;rw[e1,show((pD md).lv.getD i H.bQ).c=M.cellsOf t from hb.2.2.2];have e2:=Nu hn k0;rw[e,amT h,hx] at e2;injection e2 with e2;exact e2.symm
theorem AD{md:M.Md}(h:O.iN md):DO (pB md)/\(pB md).length=(pD md).lv.length/\(pB md).length<=100/\(pD md).aW.length<=24/\H.fN (pM md)<=24:=by
 obtain⟨C,S⟩:=Fq h;have A:=H.Fg S;have e1:(pD md).lv.length=H.fN (pM md)+(pM md).ag.length:=A.P.ll;have e2:=H.Mz (pM md);have e3:H.cy (pM md).au (pM md).au.length<=(pM md).au.length:=by unfold H.cy;exact jK (List.length_filter_le _ _) (by simp)
 have e4:(pD md).aW.length=(pM md).au.length:=A.P.ln;have:=S.nt;have:=S.no;have ok:=YT (A.P.lh A.S) (by show(pD md).lv.length<=100;omega) (pD md).lv.length;exact⟨ok.1,ok.2,by rw[show(pB md).length=(pD md).lv.length from ok.2];omega,by omega,by omega⟩
theorem amU(p:Nat)(md:M.Md)(w:World)(hP:Pl w p md) :
  Calls prog 76 #[.pointer (some ⟨p,0,none⟩)] w fun e w'=>e=.returned (.int .i64 (gk md.au).length)/\w'=w:=by
 obtain⟨m,an,cn,ab,cb,-,-,hB,-,-,-,-,h1⟩:=hP;have q1:w.cell? ⟨p,1,none⟩=some (.int .i64 (H.fN (pM md))):=hB.cell 1;rw[Cp h1] at q1;clear hB h1;go_enter func76,ntmps76;go_wp2;go_ret;exact⟨rfl,rfl⟩
theorem Y1(p i:Nat)(x:Int)(md:M.Md)(w:World)(hP:Pl w p md)(hx:(gk md.au)[i]?=some x) :
  Calls prog 62 #[.pointer (some ⟨p,0,none⟩),.int .i64 i] w fun e w'=>e=.returned (.int .i64 x)/\w'=w:=by
 obtain⟨m,an,cn,ab,cb,-,-,hB,-,-,hF,-,h1⟩:=hP;obtain⟨b,hb,hc,hi⟩:=Y0 h1 hx;have ok:=AD h1;have q1:w.cell? ⟨p,1,none⟩=some (.int .i64 (H.fN (pM md))):=hB.cell 1;have q3:w.cell? ⟨p,3,none⟩=some (.slice ab (pB md).length cb):=hB.cell 3;obtain⟨g,rfl,-,-,d1⟩:=mP.get hF i b hb;rw[hc] at d1;have hl:=M.bP hb;have iq:=ok.2.2.1;have j9:=ok.2.2.2.2;clear hB h1 hF hb hc ok hx;go_enter func62,ntmps62;go_wp2;go_ret;exact⟨rfl,rfl⟩
theorem Y4(p:Nat)(md:M.Md)(w:World)(hP:Pl w p md) :
  Calls prog 35 #[.pointer (some ⟨p,0,none⟩)] w fun e w'=>e=.returned (.int .i64 (H.gR (pB md)))/\w.grownBy w' none:=by
 obtain⟨m,an,cn,ab,cb,-,-,hB,-,-,hF,-,h1⟩:=hP;have ok:=AD h1;have q3:w.cell? ⟨p,3,none⟩=some (.slice ab (pB md).length cb):=hB.cell 3;have HC:=ae (Xi 0 ab (pB md).length cb (pB md) w hF (by omega) ok.1);clear hB h1 hF ok;go_enter func35,ntmps35;go_wp2_with fail;refine HC.out.mono ?_;rintro e w1⟨rfl,aH⟩;have dN:=ae aH;clear aH;go_wp2;go_ret;exact⟨rfl,dN.out⟩
theorem amV(p:Nat)(md:M.Md)(a:Option Addr)(n c:Nat)(ins:List (List Int))(w:World)(hP:Pl w p md)(hI:rQ w (.slice a n c) ins)(hl:∀l∈ins,l.length<=9223372036854775807)(hn:ins.length<=9223372036854775807) :
  Calls prog 34 #[.pointer (some ⟨p,0,none⟩),.slice a n c] w fun e w'=>e=.returned (.bool (D.jM md ins))/\w'=w:=by
 obtain rfl:=hI.len;have HP:=ae hP;obtain⟨m,an,cn,ab,cb,-,-,hB,-,-,-,-,h1⟩:=hP;have hLn:=(AD h1).2.2.2.2;have d0:w.cell? ⟨p,1,none⟩=some (.int .i64 (H.fN (pM md))):=hB.cell 1;rw[Cp h1] at d0 hLn;clear hB h1;by_cases hc:ins.length=(gk md.au).length
 ·have hb:((ins.length:Int) != ((gk md.au).length:Int))=false:=by simp;omega
  have Hc:=ae hc;have Hl:=ae hl;clear hc hl;go_enter func34,ntmps34;go_wp2;go_loopw[17] (fun i wr=>∃k:Nat,k<=ins.length/\i=.int .i64 k/\Hid (∀(j:Nat) l x,j<k->ins[j]?=some l->(gk md.au)[j]?=some x->(l.length:Int)=x/\l.all D.lg=true)/\wr=w) (fun i _=>ins.length-(intOf i).toNat)
  case atStart=>exact⟨0,bK _,rfl,fun j l x hj=>aN hj (by omega),rfl⟩
  case round=>
   obtain⟨k,hk,rfl,jU,rfl⟩:=hrel;by_cases aK:k<ins.length
   ·have kZ:k<(gk md.au).length:=by rw[<-Hc.out];exact aK
    obtain⟨l,hv⟩:∃l,ins[k]?=some l:=⟨_,aT aK⟩;obtain⟨x,hx⟩:∃x,(gk md.au)[k]?=some x:=⟨_,aT kZ⟩;obtain⟨g,ao,c',rfl,d1,Jo⟩:=hI.get k l hv;have qi:=Hl.out l (bV hv);have HC:=ae (Y1 p k x md wr HP.out hx);have HIl:=ae Jo;have Hv:=ae hv;have Hx:=ae hx;clear hv hx hI Jo d0;go_wp2_with fail;refine HC.out.mono ?_;rintro e w1⟨rfl,rfl⟩;clear HC;by_cases h1:(l.length:Int)=x
    ·have yt:((l.length:Int) != x)=false:=by simp[h1]
     have H1:=ae h1;clear h1;go_wp2_with fail;refine(amS ao l.length c' l _ HIl.out qi).mono ?_;rintro e w2⟨rfl,rfl⟩
     cases h2:l.all D.lg with
     | false=>
      have He:=ae (RO (md:=md) Hv.out h2);go_wp2;go_ret;exact⟨bq He.out.symm,rfl⟩
     | true=>
      have fg:Hid (∀(j:Nat) u z,j<k+1->ins[j]?=some u->(gk md.au)[j]?=some z->(u.length:Int)=z/\u.all D.lg=true):=fun j u z hj hu hz=>by
       rcases cF j k with h' | h'
       ·exact jU.out j u z h' hu hz
       ·obtain rfl:j=k:=by omega
        rw[Hv.out] at hu;rw[Hx.out] at hz;injection hu with hu;injection hz with hz;subst hu hz;exact⟨H1.out,h2⟩
      go_wp2;go_roundw
      case rel=>exact⟨k+1,by omega,by go_num,fg.out,trivial⟩
      case measure=>simp[intOf];omega
    ·have yt:((l.length:Int) != x)=true:=by simp[h1]
     have He:=ae (YY Hv.out Hx.out h1);clear h1;go_wp2;go_ret;exact⟨bq He.out.symm,rfl⟩
   ·obtain rfl:k=ins.length:=by omega
    have He:=ae (YZ Hc.out fun j l x hl hx=>jU.out j l x (by
     rcases cF j ins.length with h' | h'
     ·exact h'
     ·rw[cX h'] at hl;exact aN hl (by simp)) hl hx)
    clear hI;go_wp2;go_ret;exact⟨bq He.out.symm,rfl⟩
 ·have hb:((ins.length:Int) != ((gk md.au).length:Int))=true:=by simp;omega
  have He:=ae (YX hc);clear hc hI;go_enter func34,ntmps34;go_wp2;go_ret;exact⟨bq He.out.symm,rfl⟩
theorem Jp(a a':Option Addr)(n c n' c':Nat)(xs ys:List Int)(w:World)(hX:Sl w (.slice a n c) xs)(hY:Sl w (.slice a' n' c') ys)(hl:xs.length<=9223372036854775807)(_hl':ys.length<=9223372036854775807) :
  Calls prog 47 #[.slice a n c,.slice a' n' c'] w fun e w'=>e=.returned (.bool (decide (xs=ys)))/\∃nd,w'=w.drewN nd:=by
 have hn:=hX.len;have oO:=hY.len;subst hn;subst oO;by_cases eF:xs.length=ys.length
 ·have hb:((xs.length:Int) != (ys.length:Int))=false:=by simp;omega
  have Cq:=ae eF;clear eF;go_enter func47,ntmps47;go_wp2;go_loopw[5] (fun i wr=>∃k:Nat,k<=xs.length/\i=.int .i64 k/\(∀j,j<k->xs[j]?=ys[j]?)/\∃nd,wr=w.drewN nd) (fun i _=>xs.length-(intOf i).toNat)
  case atStart=>exact⟨0,bK _,rfl,fun j hj=>by omega,0,rfl⟩
  case round=>
   obtain⟨k,hk,rfl,kH,nd,Nv⟩:=hrel;have aF:w.grownBy wr none:=by rw[Nv];exact bF w nd none
   have RQ:=ae Nv;clear Nv;have jU:=ae kH;clear kH;by_cases aK:k<xs.length
   ·have Y5:k<ys.length:=by rw[<-Cq.out];exact aK
    obtain⟨x,hx⟩:∃x,xs[k]?=some x:=⟨_,aT aK⟩;obtain⟨y,hy⟩:∃y,ys[k]?=some y:=⟨_,aT Y5⟩;obtain⟨g,rfl,d0⟩:=(hX.Z aF).get k x hx;obtain⟨g',rfl,d1⟩:=(hY.Z aF).get k y hy;have Hx:=ae hx;have Hy:=ae hy;clear hx hy hX hY
    cases AE:(x != y) with
    | true=>
     have He:=ae (amQ Hx.out Hy.out (by simpa using AE));go_wp2;go_quiet (fail);go_wp2;go_ret;exact⟨bq He.out.symm,nd+nq,by rw[RQ.out,World.drewN_drewN]⟩
    | false=>
     have fg:=ae (show ∀j,j<k+1->xs[j]?=ys[j]? from fun j hj=>by
      rcases cF j k with h' | h'
      ·exact jU.out j h'
      ·obtain rfl:j=k:=by omega
       have e:x=y:=by simpa using AE
       rw[Hx.out,Hy.out,e])
     go_wp2;go_quiet (fail);go_wp2;go_roundw
     case rel=>exact⟨k+1,by omega,by go_num,fg.out,nd+nq,by rw[RQ.out,World.drewN_drewN]⟩
     case measure=>simp[intOf];omega
   ·obtain rfl:k=xs.length:=by omega
    have He:=ae (amR Cq.out jU.out);clear hX hY;go_wp2;go_ret;exact⟨bq He.out.symm,nd,RQ.out⟩
 ·have hb:((xs.length:Int) != (ys.length:Int))=true:=by simp;omega
  have He:=ae (show decide (xs=ys)=false from by rw[eD];intro e;exact eF (by rw[e]));clear eF hX hY;go_enter func47,ntmps47;go_wp2;go_ret;exact⟨bq He.out.symm,0,rfl⟩
theorem RR(ao:Option Addr)(n c:Nat)(l:List Int)(mark:Int)(w:World)(hS:Sl w (.slice ao n c) l)(hl:l.length<=1000000)(h0:0<=mark)(h1:mark<=4611686018427387904)(hm:∀(i:Nat) x,l[i]?=some x->x = -mark-7) :
  Calls prog 83 #[.slice ao n c,.int .i64 mark] w fun e w'=>e=.returned (.bool true)/\w'=w:=by
 obtain rfl:=hS.len;have Hm:=ae hm;have HS:=ae hS;clear hm hS;have Jq:(-mark-7 != -mark-7)=false:=by simp
 go_enter func83,ntmps83;go_wp2;go_loopw[5] (fun i wr=>∃k:Nat,k<=l.length/\i=.int .i64 k/\wr=w) (fun i _=>l.length-(intOf i).toNat)
 case atStart=>exact⟨0,bK _,rfl,rfl⟩
 case round=>
  obtain⟨k,hk,rfl,rfl⟩:=hrel;by_cases aK:k<l.length
  ·obtain⟨x,hx⟩:∃x,l[k]?=some x:=⟨_,aT aK⟩
   obtain⟨a,rfl,d0⟩:=HS.out.get k x hx;have AF:=Hm.out k x hx;subst AF;clear hx;go_wp2;go_roundw
   case rel=>exact⟨k+1,by omega,by go_num,trivial⟩
   case measure=>simp[intOf];omega
  ·obtain rfl:k=l.length:=by omega
   go_wp2;go_ret;exact⟨rfl,rfl⟩
def lfillTo(cs:Array Value)(v:Value):Nat->Array Value
 | 0=>cs
 | k+1=>(lfillTo cs v k).setIfInBounds k v
theorem Y6(cs:Array Value)(v:Value)(k:Nat):(lfillTo cs v k).size=cs.size:=by
 induction k with
 | zero=>rfl
 | succ k ih=>unfold lfillTo;rw[Array.size_setIfInBounds,ih]
theorem Y7(cs:Array Value)(v:Value)(k:Nat)(i:Nat)(h:i<cs.size):(lfillTo cs v k)[i]?=if i<k then some v else cs[i]?:=by
 induction k with
 | zero=>simp[lfillTo]
 | succ k ih=>
  unfold lfillTo;rw[IX,Y6];by_cases e:k=i
  ·subst e
   rw[ay rfl,ay h,ay (by omega)]
  ·rw[ak e,ih]
   by_cases c:i<k
   ·rw[ay c,ay (by omega)]
   ·rw[ak c,ak (by omega)]
theorem RT(g c:Nat)(cs:Array Value)(mark:Int)(w:World)(hB:aj w g 3 cs)(hn:∀i,i<cs.size->∃x,cs[i]?=some (.int .i64 x))(hl:cs.size<=1000000)(h0:0<=mark)(h1:mark<=4611686018427387904) :
  Calls prog 123 #[.slice (some ⟨g,0,none⟩) cs.size c,.int .i64 mark] w fun e w'=>e=.returned (.tuple #[])/\aj w' g 3 (lfillTo cs (.int .i64 (-mark-7)) cs.size)/\w.grownBy w' (some g):=by
 have HB:=ae hB;have Hn:=ae hn;clear hB hn;go_enter func123,ntmps123;go_wp2;go_loopw[4] (fun i wr=>∃k:Nat,k<=cs.size/\i=.int .i64 k/\Hid (aj wr g 3 (lfillTo cs (.int .i64 (-mark-7)) k))/\w.grownBy wr (some g)) (fun i _=>cs.size-(intOf i).toNat)
 case atStart=>exact⟨0,bK _,rfl,HB.out,gL _ _⟩
 case round=>
  obtain⟨k,hk,rfl,eJ,aF⟩:=hrel;by_cases aK:k<cs.size
  ·obtain⟨x,hx⟩:=Hn.out k aK
   have d0:wr.cell? ⟨g,k,none⟩=some (.int .i64 x):=by rw[eJ.out.cell k,Y7 _ _ _ _ aK,ak (by omega)];exact hx
   have f0:=eJ.out.free k;have dh:=eJ.out.lt;have iV:=ae (eJ.out.set k (.int .i64 (-mark-7)));have dZ:=ae (aC aF (bD wr g k (.int .i64 (-mark-7))));clear aF hx eJ;go_wp2;go_roundw
   case rel=>exact⟨k+1,by omega,by go_num,iV.out,dZ.out⟩
   case measure=>simp[intOf];omega
  ·obtain rfl:k=cs.size:=by omega
   have dZ:=ae aF;clear aF;go_wp2;go_end0;exact⟨rfl,eJ.out,dZ.out⟩
theorem Y8(ao:Option Addr)(n c:Nat)(l:List Int)(w:World)(hS:Sl w (.slice ao n c) l)(hl:l.length<=1000000000) :
  Calls prog 108 #[.slice ao n c] w fun e w'=>e=.returned (.slice (some ⟨w.heap.size,0,none⟩) l.length l.length)/\aj w' w.heap.size 3 (l.map (Value.int .i64)).toArray/\w.grownBy w' none:=by
 obtain rfl:=hS.len;have HS:=ae hS;clear hS;obtain⟨i0,hi,cQ,cR,cZ⟩:=info_parts Tryz.oH;have jm:(prog.info? 3).map (·.size)=some 1:=by rw[hi];simp[cR]
 have Cr:=ae jm;clear jm;go_enter func108,ntmps108;go_wp2_with (at_make;refine pU _ rfl _ _ 32 rfl w.heap.size 3 i0 (.int .i64 0) 1 underlying32 hi cQ cR _ _ _ _ l.length rfl rfl rfl rfl ?c1 ?c2 ?c3 ?_)
 case c1=>rw[cZ];omega
 case c2=>unfold maxLen;omega
 case c3=>exact bj _
 intro w1 cB aH;have HB:Hid (w1.heap[w.heap.size]?=some (.cells (List.replicate l.length (Value.int .i64 0)).toArray 3 (0,0))):=wR cB;have jw:=ae (HS.out.Z aH);have Y9:=ae (GD aH);clear cB hi cQ cR cZ HS;obtain⟨w2,hr,fA,Jr⟩:∃w2,(Builtin.copy_ #[32,32] 3 #[.slice (some ⟨w.heap.size,0,none⟩) l.length l.length,.slice ao l.length c]).run prog w1=.ok (goInt l.length) w2/\aj w2 w.heap.size 3 (l.map (Value.int .i64)).toArray/\w.grownBy w2 none:=by
  by_cases h0:l.length=0
  ·have e:l=[]:=List.eq_nil_of_length_eq_zero h0
   subst e;exact⟨w1,run_copy_none (P:=prog) w1 32 32 3 3 _ _ _ _ _ _ underlying32 Cr.out rfl,HB.out,aH⟩
  ·obtain⟨x,hx⟩:∃x,l[0]?=some x:=⟨_,aT (by omega)⟩
   obtain⟨a,rfl,-⟩:=jw.out.get 0 x hx;have Nw:=run_copy_row (P:=prog) w1 32 32 3 3 w.heap.size 0 l.length l.length a l.length c _ 3 (l.map (Value.int .i64)) underlying32 Cr.out HB.out (by simp) (fun j v hv=>by
    rw[dY] at hv
    cases hj:l[j]? with
    | none=>rw[hj] at hv;simp at hv
    | some y=>
     rw[hj] at hv;injection hv with hv;subst hv;obtain⟨a',e,d⟩:=jw.out.get j y hj;injection e with e;subst e;exact d) (by simp) (by intro v hv;obtain⟨x,-,rfl⟩:=List.mem_map.mp hv;rfl)
   rw[jh] at Nw;refine⟨_,Nw,?_,Bn (below_setRow Y9.out (bj _) _)⟩;unfold aj;rw[setRow_heap w1 w.heap.size _ _ 3 _ HB.out];simp
 have iV:=ae fA;have dZ:=ae Jr;clear fA Jr aH HB jw Y9;go_wp2;go_ret;exact⟨rfl,iV.out,dZ.out⟩
def D8(b:Nat):Int:=if 127<b then (b:Int)-256 else b
def yG(s:ByteArray):List Int:=s.data.toList.map fun b=>D8 b.toNat
theorem RU(s:ByteArray):(yG s).length=s.size:=by unfold yG;rw[jh];exact Array.length_toList
theorem Nx(s:ByteArray)(k:Nat)(h:k<s.size):(yG s)[k]?=some (D8 (s[k]'h).toNat):=by
 unfold yG;rw[dY];have e:s.data.toList[k]?=some (s[k]'h):=by
  rw[Array.getElem?_toList,Array.getElem?_eq_getElem (show k<s.data.size from h)]
  rfl
 rw[e];rfl
def sgTo(s:ByteArray)(cs:Array Value):Nat->Array Value
 | 0=>cs
 | k+1=>(sgTo s cs k).setIfInBounds k (.int .i64 ((yG s).getD k 0))
theorem Ny(s:ByteArray)(cs:Array Value)(k:Nat):(sgTo s cs k).size=cs.size:=by
 induction k with
 | zero=>rfl
 | succ k ih=>unfold sgTo;rw[Array.size_setIfInBounds,ih]
theorem Za(s:ByteArray)(cs:Array Value)(k i:Nat)(h:i<cs.size):(sgTo s cs k)[i]?=if i<k then some (.int .i64 ((yG s).getD i 0)) else cs[i]?:=by
 induction k with
 | zero=>simp[sgTo]
 | succ k ih=>
  unfold sgTo;rw[IX,Ny];by_cases e:k=i
  ·subst e
   rw[ay rfl,ay h,ay (by omega)]
  ·rw[ak e,ih]
   by_cases c:i<k
   ·rw[ay c,ay (by omega)]
   ·rw[ak c,ak (by omega)]
theorem amY(s:ByteArray)(cs:Array Value)(h:cs.size=s.size):sgTo s cs s.size=((yG s).map (Value.int .i64)).toArray:=by
 apply Array.ext_getElem?
 intro i;rcases cF i s.size with c|c
 ·rw[Za s cs s.size i (by omega),ay c,nH,dY,Nx s i c,nU,Nx s i c]
  rfl
 ·rw[Array.getElem?_eq_none (by rw[Ny];omega),Array.getElem?_eq_none (by simp[RU];omega)]
theorem Zb(s:ByteArray)(w:World)(hs:s.size<=1000000000) :
  Calls prog 69 #[.string s] w fun e w'=>e=.returned (.slice (some ⟨w.heap.size,0,none⟩) s.size s.size)/\aj w' w.heap.size 3 ((yG s).map (Value.int .i64)).toArray/\w.grownBy w' none:=by
 obtain⟨i0,hi,cQ,cR,cZ⟩:=info_parts Tryz.oH;go_enter func69,ntmps69;go_wp2_with (at_make;refine pU _ rfl _ _ 32 rfl w.heap.size 3 i0 (.int .i64 0) 1 underlying32 hi cQ cR _ _ _ _ s.size rfl rfl rfl rfl ?c1 ?c2 ?c3 ?_)
 case c1=>rw[cZ];omega
 case c2=>unfold maxLen;omega
 case c3=>exact bj _
 intro w1 cB aH;have HB:=ae (wR cB);have dN:=ae aH;have ox:Hid (∀i,i<s.size->(List.replicate s.size (Value.int .i64 0)).toArray[i]?=some (.int .i64 0)):=fun i hi=>by simp[hi]
 have kS:(List.replicate s.size (Value.int .i64 0)).toArray.size=s.size:=by simp
 generalize (List.replicate s.size (Value.int .i64 0)).toArray=cs at *;have D9:=ae kS;clear cB hi cQ cR cZ aH kS;go_wp2;go_loopw[4] (fun i wr=>∃k:Nat,k<=s.size/\i=.int .i64 k/\Hid (aj wr w.heap.size 3 (sgTo s cs k))/\Hid (w.grownBy wr none)) (fun i _=>s.size-(intOf i).toNat)
 case atStart=>exact⟨0,bK _,rfl,HB.out,dN.out⟩
 case round=>
  clear HB dN;obtain⟨k,hk,rfl,eJ,bH⟩:=hrel;by_cases aK:k<s.size
  ·have d0:wr.cell? ⟨w.heap.size,k,none⟩=some (.int .i64 0):=by rw[eJ.out.cell k,Za _ _ _ _ (by rw[D9.out];exact aK),ak (by omega)];exact ox.out k aK
   have f0:=eJ.out.free k;have dh:=eJ.out.lt;have Hg:=ae (Nx s k aK);have amZ:(s[k]'aK).toNat<256:=UInt8.toNat_lt _;obtain⟨x,Hx⟩:∃x:Nat,Hid ((s[k]'aK).toNat=x):=⟨_,rfl⟩;have hx:(s[k]'aK).toNat=x:=Hx.out;rw[hx] at amZ;rw[Hx.out] at Hg;have Zc:Hid ((yG s).getD k 0=D8 x):=by unfold Hid;rw[nU,Hg.out];rfl
   by_cases Zd:127<x
   ·have HV:=ae (show D8 x=(x:Int)-256 by unfold D8;rw[ay Zd])
    have B1:=eJ.out.set k (.int .i64 x);have e1:(wr.setCell ⟨w.heap.size,k,none⟩ (.int .i64 x)).cell? ⟨w.heap.size,k,none⟩=some (.int .i64 x):=by
     rw[B1.cell k,IX,ay rfl,ay (by rw[Ny,D9.out];exact aK)]
    have iV:=ae (B1.set k (.int .i64 ((x:Int)-256)));have dZ:=ae (dF (dF bH.out (bD wr w.heap.size k (.int .i64 x)) (bj _)) (bD _ w.heap.size k (.int .i64 ((x:Int)-256))) (bj _));have RV:Hid (aj ((wr.setCell ⟨w.heap.size,k,none⟩ (.int .i64 x)).setCell ⟨w.heap.size,k,none⟩ (.int .i64 ((x:Int)-256))) w.heap.size 3 (sgTo s cs (k+1))):=by
     have e:=iV.out;rw[Array.setIfInBounds_setIfInBounds] at e;unfold sgTo;rw[Zc.out,HV.out];exact e
    clear B1 eJ bH iV;go_wp2;go_roundw
    case rel=>exact⟨k+1,by omega,by go_num,RV.out,dZ.out⟩
    case measure=>simp[intOf];omega
   ·have HV:=ae (show D8 x=(x:Int) by unfold D8;rw[ak Zd])
    have B1:=eJ.out.set k (.int .i64 x);have e1:(wr.setCell ⟨w.heap.size,k,none⟩ (.int .i64 x)).cell? ⟨w.heap.size,k,none⟩=some (.int .i64 x):=by
     rw[B1.cell k,IX,ay rfl,ay (by rw[Ny,D9.out];exact aK)]
    have dZ:=ae (dF bH.out (bD wr w.heap.size k (.int .i64 x)) (bj _));have RV:Hid (aj (wr.setCell ⟨w.heap.size,k,none⟩ (.int .i64 x)) w.heap.size 3 (sgTo s cs (k+1))):=by
     unfold sgTo;rw[Zc.out,HV.out];exact B1
    clear B1 eJ bH;go_wp2;go_roundw
    case rel=>exact⟨k+1,by omega,by go_num,RV.out,dZ.out⟩
    case measure=>simp[intOf];omega
  ·obtain rfl:k=s.size:=by omega
   have HF:=ae eJ.out;rw[amY s cs D9.out] at HF;clear eJ;go_wp2;go_ret;exact⟨rfl,HF.out,bH.out⟩
def Rw(w:World)(r p g:Nat)(cells:List Int):Prop:=
 aj w r 85 #[.pointer (some ⟨p,0,none⟩),.slice (some ⟨g,0,none⟩) cells.length cells.length]/\aj w g 3 (cells.map (Value.int .i64)).toArray/\cells.length<=1000000
theorem Rw.Z{w w':World}{r p g:Nat}{cells:List Int}(h:Rw w r p g cells)(hg:w.grownBy w' none):Rw w' r p g cells:=⟨h.1.kept hg (by simp),h.2.1.kept hg (by simp),h.2.2⟩
theorem Rw.row{w:World}{r p g:Nat}{cells:List Int}(h:Rw w r p g cells){b:H.Bf}(h0:0<=b.a)(h1:0<=b.c)(he:b.e<=cells.length)(cp:Nat):kC w (.slice (some ⟨g,b.a.toNat,none⟩) b.c.toNat cp) (H.part cells b):=by
 have hl:=H.W9 h0 h1 he;refine⟨some ⟨g,b.a.toNat,none⟩,cp,by rw[hl],fun i x hx=>⟨g,b.a.toNat,rfl,h.2.1.lt,?_⟩⟩;rw[h.2.1.cell];rw[H.MA] at hx
 split at hx
 ·rw[nH,dY,hx];rfl
 ·exact aN hx (by simp)
theorem Ze(r p g:Nat)(md:M.Md)(cells:List Int)(b:Nat)(x:H.Bf)(w:World)(hP:Pl w p md)(hR:Rw w r p g cells)(hx:(pB md)[b]?=some x)(x0:0<=x.a)(x1:1<=x.c)(xe:x.a+x.c<=cells.length) :
  Calls prog 65 #[.pointer (some ⟨r,0,none⟩),.int .i64 b] w fun e w'=>e=.returned (.slice (some ⟨g,x.a.toNat,none⟩) x.c.toNat (cells.length-x.a.toNat))/\w.grownBy w' none:=by
 obtain⟨m,an,cn,ab,cb,-,-,hB,-,-,hF,-,h1⟩:=hP;have ok:=AD h1;have dh:=M.bP hx;have q3:w.cell? ⟨p,3,none⟩=some (.slice ab (pB md).length cb):=hB.cell 3;obtain⟨g',rfl,-,d0,d1⟩:=mP.get hF b x hx;have r0:w.cell? ⟨r,0,none⟩=some (.pointer (some ⟨p,0,none⟩)):=hR.1.cell 0;have r1:w.cell? ⟨r,1,none⟩=some (.slice (some ⟨g,0,none⟩) cells.length cells.length):=hR.1.cell 1;have gG:=hR.1.lt;have km:=hR.2.2;have iq:=ok.2.2.1;obtain⟨xa,xc⟩:=x;obtain⟨A,rfl⟩:=fR x0;obtain⟨Cc,rfl⟩:=fR (show 0<=xc by have:(1:Int)<=xc:=x1;omega);simp only[ey] at *;have xe':A+Cc<=cells.length:=by omega
 have qS:=ae (aQ w (.cells #[.int .i64 A,.int .i64 Cc] 116) none);clear hB h1 hF hx ok hR xe;go_enter func65,ntmps65;go_wp2;go_quiet (fail);rw[Nat.add_sub_cancel_left];have iy:=ae (aC qS.out (bF _ nq none));clear qS;go_wp2;go_ret;exact⟨rfl,iy.out⟩
theorem Rw.pA{w:World}{r p g:Nat}{cells:List Int}(h:Rw w r p g cells)(eF:r≠g)(q:Nat)(l:List Int)(hl:q+l.length<=cells.length) :
  Rw (w.setRow g ((cells.map (Value.int .i64)).take q++(l.map (Value.int .i64)++(cells.map (Value.int .i64)).drop (q+l.length))).toArray) r p g (H.pA cells q l):=by
 have jB:=H.QT hl;refine⟨?_,?_,by rw[jB];exact h.2.2⟩
 ·rw[jB];exact h.1.kept (vb _ _ _) (by simpa using eF)
 ·have e:=QZ h.2.1 ((cells.map (Value.int .i64)).take q++(l.map (Value.int .i64)++(cells.map (Value.int .i64)).drop (q+l.length))).toArray
  have e2:((cells.map (Value.int .i64)).take q++(l.map (Value.int .i64)++(cells.map (Value.int .i64)).drop (q+l.length)))=(H.pA cells q l).map (Value.int .i64):=by
   unfold H.pA;simp[List.map_take,List.map_drop]
  rw[e2] at e ⊢;exact e
theorem Zf(r p g:Nat)(md:M.Md)(cells l:List Int)(b:Nat)(x:H.Bf)(a:Option Addr)(n c:Nat)(w:World)(hP:Pl w p md)(hR:Rw w r p g cells)(hx:(pB md)[b]?=some x)(x0:0<=x.a)(x1:1<=x.c)(xe:x.a+x.c<=cells.length)(hl:(l.length:Int)=x.c)(hI:Sl w (.slice a n c) l) :
  Calls prog 36 #[.pointer (some ⟨r,0,none⟩),.int .i64 b,.slice a n c] w fun e w'=>e=.returned (.tuple #[])/\Rw w' r p g (H.pA cells x.a.toNat l)/\w.grownBy w' (some g):=by
 obtain rfl:=hI.len;obtain⟨j0,hj,vL,p9,vM⟩:=info_parts Tryz.oH;have eF:r≠g:=M6 hR.1 hR.2.1 (by decide);have HC:=ae (Ze r p g md cells b x w hP hR hx x0 x1 xe);have HR:=ae hR;have HI:=ae hI;have hw:x.a.toNat+l.length<=cells.length:=by omega
 clear hP hR hx hI;go_enter func36,ntmps36;go_wp2_with fail;refine HC.out.mono ?_;rintro e w1⟨rfl,aH⟩;have Ft:=ae (HR.out.Z aH);have kP:=ae (HI.out.Z aH);have dN:=ae (pd (row:=some g) aH);obtain⟨ga,rfl,-⟩:=kP.out.get 0 _ (aT (show 0<l.length by omega));have RW:Hid (∀(j:Nat) v,(l.map (Value.int .i64))[j]?=some v->w1.cell? (ga.add j)=some v):=fun j v hv=>by
  rw[dY] at hv;obtain⟨y,hy,rfl⟩:=Option.map_eq_some_iff.1 hv;obtain⟨ga',e,d⟩:=kP.out.get j y hy;injection e with e;rw[e];exact d
 have Hw:=ae (Ft.out.pA eF x.a.toNat l hw);have RX:=ae (aC dN.out (vb w1 g ((cells.map (Value.int .i64)).take x.a.toNat++(l.map (Value.int .i64)++(cells.map (Value.int .i64)).drop (x.a.toNat+l.length))).toArray));have Np:x.c.toNat=l.length:=by omega
 rw[Np];clear aH HC HR HI kP Np;go_wp2_with (refine wpList_copy_own rfl _ _ 32 32 rfl 3 underlying32 (by rw[hj];simp[p9]) g x.a.toNat l.length (cells.length-x.a.toNat) ga l.length c rfl rfl (cells.map (Value.int .i64)).toArray 3 Ft.out.2.1 (l.map (Value.int .i64)) (by simp) RW.out (by simp;omega) (by intro v hv;obtain⟨q,-,rfl⟩:=List.mem_map.mp hv;rfl) ?_);go_end0;exact⟨rfl,Hw.out,RX.out⟩
def iY(md:M.Md)(cells:List Int)(n:Int):List Int:=H.uf (pM md) (pD md) (pB md) cells n
theorem RY(r p g:Nat)(md:M.Md)(cells:List Int)(n:Int)(w0 w:World)(Nz:Pl w0 p md)(EX:Rw w0 r p g cells)(wS:w0.grownBy w none)(hc:(cells.length:Int)=H.gR (pB md)) :
  Calls prog 37 #[.pointer (some ⟨r,0,none⟩),.int .i64 n] w fun e w'=>(∃a c,e=.returned (.slice a (iY md cells n).length c)/\kC w0 (.slice a (iY md cells n).length c) (iY md cells n))/\w.grownBy w' none:=by
 have hP:=Nz.Z wS;have hR:=EX.Z wS;have HM:Hid (∃m an cn ab cb,aj w0 p 80 #[.pointer (some ⟨m,0,none⟩),.int .i64 (H.fN (pM md)),.slice an (pD md).aW.length cn,.slice ab (pB md).length cb]/\cN w0 m (pM md)):=by
  obtain⟨m,an,cn,ab,cb,-,-,hB,hM,-⟩:=Nz;exact⟨m,an,cn,ab,cb,hB,hM⟩
 have HR:=ae EX;have rM:=ae wS;have RZ:=hP;obtain⟨_,_,_,_,_,-,-,-,-,-,-,-,h1⟩:=RZ;obtain⟨m,an,cn,ab,cb,Ea,G7⟩:=HM.out;have hB:=Ea.kept wS (by simp);obtain⟨C,S⟩:=Fq h1;have A:=H.Fg S;have iq:=S.nt;have r0:w.cell? ⟨r,0,none⟩=some (.pointer (some ⟨p,0,none⟩)):=hR.1.cell 0;have q0:w.cell? ⟨p,0,none⟩=some (.pointer (some ⟨m,0,none⟩)):=hB.cell 0;have HM0:=ae G7;have HC:=ae (Nt p md n w hP);have iD:iX md n<0\/0<=iX md n:=by omega
 rcases iD with hb|hb
 ·have He:Hid (iY md cells n=(M.aq (pM md) n).data):=by
   unfold Hid iY H.uf;rw[ak];rintro ⟨a1,a2,a3⟩;unfold iX at hb;rw[ak (by omega)] at hb;omega
  clear hP hR hB Ea G7 HM h1 S A hc Nz EX wS;generalize iX md n=bi at *;go_enter func37,ntmps37;go_wp2_with fail;refine HC.out.mono ?_;rintro e w1⟨rfl,rfl⟩;clear HC;go_wp2_with fail;refine(Ca m (pM md) n w0 w1 HM0.out rM.out (by omega)).mono ?_;rintro e w2⟨t,ht,⟨ao,c,rfl,hI⟩,aM⟩;have HG:=ae (aC aM (aQ w2 (.cells #[.int .i64 t.af,.int .i64 t.h,.int .i64 t.w,.int .i64 t.c,.int .i64 t.zero,.slice ao t.data.length c] 106) none));have R0:=ae hI.row;rw[ht.out] at He;clear hI aM;go_wp2;go_ret;exact⟨⟨ao,c,by rw[He.out];rfl,by rw[He.out];exact R0.out⟩,HG.out⟩
 ·obtain⟨b,Jq⟩:=fR hb
  have hn:0<=n/\n<(pD md).aW.length/\(pD md).aW.getD n.toNat 0=(b:Int):=by
   have e:=Jq;unfold iX at e;by_cases c:n<0\/((pD md).aW.length:Int)<=n
   ·rw[ay c] at e;omega
   ·rw[ak c] at e;exact⟨by omega,by omega,e⟩
  have e4:(pD md).aW.length=(pM md).au.length:=A.P.ln;have dh:b<(pD md).lv.length:=A.P.lt (n:=n.toNat) (by omega) hn.2.2;have Fu:b<(pB md).length:=by rw[show(pB md).length=(pD md).lv.length from A.L.len];exact dh
  obtain⟨x,hx⟩:∃x,(pB md)[b]?=some x:=⟨_,aT Fu⟩;obtain⟨f1,f2,f3,f4⟩:=A.gE dh;have yH:0<=x.a:=by rw[<-getD_some (d:=H.aV) hx];exact f1
  have AG:1<=x.c:=by rw[<-getD_some (d:=H.aV) hx];exact f2
  have yI:x.e<=cells.length:=by rw[hc,<-getD_some (d:=H.aV) hx];exact f4
  have He:Hid (iY md cells n=H.part cells x):=by
   unfold Hid iY H.uf;rw[ay ⟨hn.1,hn.2.1,by rw[hn.2.2];omega⟩,hn.2.2,ey,getD_some hx]
  have s8:=H.W9 (cells:=cells) (b:=x) yH (by omega) yI;have iW:=ae (Ze r p g md cells b x w hP hR hx yH AG yI);have NA:=ae s8;have f1h:=ae yH;have f2h:=ae AG;have f4h:=ae yI;rw[Jq] at HC;clear hP hR hB Ea G7 HM h1 S A hc Jq hn hx f1 f2 f3 f4 yH AG yI s8 q0 hb Nz EX wS;go_enter func37,ntmps37;go_wp2_with fail;refine HC.out.mono ?_;rintro e w1⟨rfl,rfl⟩;clear HC;go_wp2_with fail;refine iW.out.mono ?_;rintro e w2⟨rfl,aM⟩;have HG:=ae aM;have R0:=ae (HR.out.row f1h.out (by have:=f2h.out;omega) f4h.out (cells.length-x.a.toNat));clear aM iW;go_wp2;go_ret;exact⟨⟨some ⟨g,x.a.toNat,none⟩,cells.length-x.a.toNat,by rw[He.out,NA.out];rfl,by rw[He.out,NA.out];exact R0.out⟩,HG.out⟩
theorem Tryz.Fv:(prog.info? 32).map (fun i=>(i.zero,i.size,i.bytes))=some (some (.slice none 0 0),1,24):=by kernel_rfl
theorem aZ.apart{w w':World}{B G:Nat}{T:TypeId}{v:Value}{l:List Int}{cs:Array Value}(h:aZ w B v l)(hB:aj w G T cs)(hT:T≠3)(hg:w.grownBy w' (some G)):aZ w' B v l:=by
 refine World.ownsRow.kept h hg ?_
 cases hv:v.ownBlock with
 | none=>exact .inl rfl
 | some g=>
  refine .inr ?_;rintro e;injection e with e;subst e;rcases h.2 with⟨h1,-⟩|⟨g',cap,dV,h1,-,hh,-⟩
  ·rw[h1] at hv;exact aN hv (by simp[Value.ownBlock])
  ·rw[h1] at hv
   simp only[Value.ownBlock] at hv;injection hv with hv;subst hv;unfold aj at hB;rw[hh] at hB;injection hB with hB;injection hB with _ hB _;exact hT hB.symm
theorem Zg{w:World}{base g n:Nat}(h:w.ownsRow base 32 1 (.slice (some ⟨g,0,none⟩) n n) n (madeCells #[Value.slice none 0 0] n).toList):aj w g 32 (List.replicate n (Value.slice none 0 0)).toArray:=by
 rcases h.2 with⟨h',_⟩|⟨g',Ll,dV,h',_,hg,_,_,hz,ht⟩
 ·simp at h'
 ·simp only[Value.slice.injEq,j8,oI,and_true,true_and] at h'
  obtain⟨rfl,rfl⟩:=h';unfold aj;rw[hg];have e:dV.toList=List.replicate n (Value.slice none 0 0):=by
   rw[Bo (by simp[hz])] at ht;rw[ht];exact toList_madeCells_one _ _
  rw[<-e]
def dg(g:Nat)(l:List Int):Value:=.slice (some ⟨g,0,none⟩) l.length l.length
def xA(gs:List Nat)(ls:List (List Int))(n:Nat):List Value:=List.zipWith dg gs ls++List.replicate n zs
theorem am4{gs:List Nat}{ls:List (List Int)}{n:Nat}(h:gs.length=ls.length)(hn:0<n):(xA gs ls n)[gs.length]?=some zs:=by
 unfold xA;rw[oL (by simp[h])];simp[h,hn]
theorem am5{gs:List Nat}{ls:List (List Int)}{n g:Nat}{l:List Int}(h:gs.length=ls.length):(xA gs ls (n+1)).set gs.length (dg g l)=xA (gs++[g]) (ls++[l]) n:=by
 unfold xA;have hl:(List.zipWith dg gs ls).length=gs.length:=by simp[h]
 rw[List.set_append_right _ _ (by omega),hl,Nat.sub_self,List.replicate_succ,List.set_cons_zero,R4 h];simp
structure NB(w:World)(B G:Nat)(gs:List Nat)(ls:List (List Int)):Prop where
 len:gs.length=ls.length
 out:aj w G 32 (List.zipWith dg gs ls).toArray
 base:B<=G
 AH:gs.Pairwise (· < ·)
 aS:∀g∈gs,G<g
 gF:∀(i:Nat) g l,gs[i]?=some g->ls[i]?=some l->aj w g 3 (l.map (Value.int .i64)).toArray
theorem am6(r p g:Nat)(md:M.Md)(cells:List Int)(w:World)(hP:Pl w p md)(hR:Rw w r p g cells)(hc:(cells.length:Int)=H.gR (pB md))(lX:∀n∈(pM md).aJ,1<=(iY md cells n).length/\(iY md cells n).length<=512) :
  Calls prog 40 #[.pointer (some ⟨r,0,none⟩)] w fun e w'=>(∃G gs,e=.returned (.slice (some ⟨G,0,none⟩) (pM md).aJ.length (pM md).aJ.length)/\NB w' w.heap.size G gs ((pM md).aJ.map (iY md cells)))/\w.grownBy w' none:=by
 obtain⟨i0,hi,cQ,cR,cZ⟩:=info_parts Tryz.Fv;obtain⟨j0,hj,vL,p9,vM⟩:=info_parts Tryz.oH;have HP:=ae hP;have HR:=ae hR;obtain⟨m,an,cn,ab,cb,-,-,hB,hM,-,-,-,h1⟩:=hP;obtain⟨C,S⟩:=Fq h1;have Zh:=S.nu;have r0:w.cell? ⟨r,0,none⟩=some (.pointer (some ⟨p,0,none⟩)):=hR.1.cell 0;have q0:w.cell? ⟨p,0,none⟩=some (.pointer (some ⟨m,0,none⟩)):=hB.cell 0;obtain⟨a1,c1,a2,c2,a3,c3,qQ,-,-,hU⟩:=hM;have m2:w.cell? ⟨m,2,none⟩=some (.slice a3 (pM md).aJ.length c3):=qQ.cell 2;have HU:=ae hU;have Fw:=ae lX;have Hc:=ae hc;have gG:=hR.1.lt;have s8:=hB.lt;have pX:=qQ.lt;clear hB qQ hU S h1 lX hc hR;generalize hN:(pM md).aJ=us at *;have HN:=ae hN;clear hN;go_enter func40,ntmps40;go_wp2_with (at_make;refine pU _ rfl _ _ 38 rfl w.heap.size 32 i0 (.slice none 0 0) 1 underlying38 hi cQ cR _ _ _ _ us.length rfl rfl rfl rfl ?c1 ?c2 ?c3 ?_)
 case c1=>rw[cZ];omega
 case c2=>unfold maxLen;omega
 case c3=>exact bj _
 intro w2 cB aM;have fA:=Zg cB;have r0':=aG aM r0;have Ay:=aG aM q0;have Zi:=aG aM m2;clear cB r0 q0 m2;go_wp2;clear r0' Ay Zi;go_loopw[30] (fun i wr=>∃(k:Nat) (gs:List Nat),k<=us.length/\i=.int .i64 k/\gs.length=k/\aj wr w.heap.size 32 (xA gs ((us.take k).map (iY md cells)) (us.length-k)).toArray/\Hid (gs.Pairwise (· < ·))/\Hid (∀g'∈gs,w.heap.size<g'/\g' < wr.heap.size)/\Hid (∀(j:Nat) g' l,gs[j]?=some g'->((us.take k).map (iY md cells))[j]?=some l->aj wr g' 3 (l.map (Value.int .i64)).toArray)/\w.grownBy wr none) (fun i _=>us.length-(intOf i).toNat)
 case atStart=>exact⟨0,[],bK _,rfl,rfl,by simpa[xA,zs] using fA,List.Pairwise.nil,fun _ h=>aN h (by simp),fun _ _ _ h=>aN h (by simp),aM⟩
 case round=>
  obtain⟨k,gs,hk,rfl,gN,bU,Js,AK,wY,aF⟩:=hrel;have bH:=ae aF;have EZ:=aF.size;have LF:=bU.lt;have Zj:((us.take k).map (iY md cells)).length=k:=by simp;omega
  have ur:=ae Zj;have lq:=ae gN;clear Zj;by_cases aK:k<us.length
  ·obtain⟨x,hx⟩:∃x,us[k]?=some x:=⟨_,aT aK⟩
   obtain⟨gu,rfl,-,-,d0⟩:=(HU.out.Z aF).get k x hx;have HC:=ae (RY r p g md cells x w wr HP.out HR.out aF Hc.out);have uu:=Fw.out x (bV hx);have vJ:Hid ((us.take (k+1)).map (iY md cells)=(us.take k).map (iY md cells)++[iY md cells x]):=by unfold Hid;rw[H.kj hx];simp
   have eJ:=ae bU;clear hx bU aF gN;obtain⟨l,R6⟩:∃l,Hid (iY md cells x=l):=⟨_,rfl⟩;rw[R6.out] at HC uu vJ;go_wp2_with fail;refine HC.out.mono ?_;rintro e w3⟨⟨al,cl,rfl,Zk⟩,aU⟩;have Zl:=ae Zk;have fW:=ae (aC bH.out aU);have fZ:=ae (eJ.out.kept aU (by simp));have Dq:=aU.size;have Eb:=ae aU;clear Zk aU HC d0;go_wp2_with (at_make;refine pU _ rfl _ _ 32 rfl w3.heap.size 3 j0 (.int .i64 0) 1 underlying32 hj vL p9 _ _ _ _ l.length rfl rfl rfl rfl ?c1 ?c2 ?c3 ?_)
   case c1=>rw[vM];omega
   case c2=>unfold maxLen;omega
   case c3=>exact bj _
   intro w4 Zm bm;have ku:=wR Zm;clear Zm;have NC:=fZ.out.kept bm (by simp);have cG:w4.cell? ⟨w.heap.size,k,none⟩=some zs:=by
    rw[NC.cell k];have e:=am4 (gs:=gs) (ls:=(us.take k).map (iY md cells)) (n:=us.length-k) (by rw[ur.out,lq.out]) (by omega);rw[lq.out] at e
    simpa using e
   have fG:=NC.free k;have Cs:w4.grownBy (w4.setCell ⟨w.heap.size,k,none⟩ (.slice (some ⟨w3.heap.size,0,none⟩) l.length l.length)) (some w.heap.size):=bD _ _ _ _;have ow:=ae (ku.kept Cs (by simp;omega));have Zn:Hid (aj (w4.setCell ⟨w.heap.size,k,none⟩ (.slice (some ⟨w3.heap.size,0,none⟩) l.length l.length)) w.heap.size 32 (xA (gs++[w3.heap.size]) ((us.take (k+1)).map (iY md cells)) (us.length-(k+1))).toArray):=by
    have e:=NC.set k (dg w3.heap.size l);have e2:=am5 (gs:=gs) (ls:=(us.take k).map (iY md cells)) (n:=us.length-(k+1)) (g:=w3.heap.size) (l:=l) (by rw[ur.out,lq.out]);rw[show us.length-(k+1)+1=us.length-k by omega,lq.out,<-vJ.out] at e2;have e3:(xA gs ((us.take k).map (iY md cells)) (us.length-k)).toArray.setIfInBounds k (dg w3.heap.size l)=((xA gs ((us.take k).map (iY md cells)) (us.length-k)).set k (dg w3.heap.size l)).toArray:=by simp
    rw[e3,e2] at e;exact e
   have cJ:w.grownBy (w4.setCell ⟨w.heap.size,k,none⟩ (.slice (some ⟨w3.heap.size,0,none⟩) l.length l.length)) none:=dF (aC fW.out bm) Cs (bj _);have Zo:wr.grownBy (w4.setCell ⟨w.heap.size,k,none⟩ (.slice (some ⟨w3.heap.size,0,none⟩) l.length l.length)) (some w.heap.size):=aC (pd (aC Eb.out bm)) Cs;have Ec:=ae (Zl.out.Z cJ);have iC:=ae cJ;have Zp:=ae Zo;have DQ:=ku.lt;clear Cs NC ku cJ Zo Zl fZ bm;obtain⟨a',c',e',R7⟩:=Ec.out;injection e' with e1 _ _;subst e1;obtain⟨x0,mC⟩:∃x0,l[0]?=some x0:=⟨_,aT (by omega)⟩;obtain⟨ga,off,rfl,-,-⟩:=R7 0 x0 mC;have RW:Hid (∀(j:Nat) v,(l.map (Value.int .i64))[j]?=some v->(w4.setCell ⟨w.heap.size,k,none⟩ (.slice (some ⟨w3.heap.size,0,none⟩) l.length l.length)).cell? ((⟨ga,off,none⟩:Addr).add j)=some v):=fun j v hv=>by
    rw[dY] at hv;obtain⟨y,hy,rfl⟩:=Option.map_eq_some_iff.1 hv;obtain⟨g2,awR,e2,-,Jt⟩:=R7 j y hy;simp only[j8,oI,and_true] at e2;obtain⟨rfl,rfl⟩:=e2;have ea:(⟨ga,off,none⟩:Addr).add j=⟨ga,off+j,none⟩:=by unfold Addr.add;split<;>simp_all
    rw[ea];exact Jt
   have am8:Hid ((((List.replicate l.length (Value.int .i64 0)).toArray).toList.take 0++(l.map (Value.int .i64)++((List.replicate l.length (Value.int .i64 0)).toArray).toList.drop (0+(l.map (Value.int .i64)).length))).toArray=(l.map (Value.int .i64)).toArray):=by
    unfold Hid;simp
   have Ju:=vb (w4.setCell ⟨w.heap.size,k,none⟩ (.slice (some ⟨w3.heap.size,0,none⟩) l.length l.length)) w3.heap.size (l.map (Value.int .i64)).toArray;have Na:=ae (QZ ow.out (l.map (Value.int .i64)).toArray);have At:=ae (Zn.out.kept Ju (by simp;omega));have kD:=ae (dF iC.out Ju (by omega));have am9:Hid (∀g'∈gs++[w3.heap.size],w.heap.size<g'/\g' < ((w4.setCell ⟨w.heap.size,k,none⟩ (.slice (some ⟨w3.heap.size,0,none⟩) l.length l.length)).setRow w3.heap.size (l.map (Value.int .i64)).toArray).heap.size):=fun g' fQ=>by
    have e:=Ju.size;simp at e;rcases List.mem_append.mp fQ with h' | h'
    ·have:=AK.out g' h'
     have:=Zp.out.size;simp at this ⊢;omega
    ·rw[List.mem_singleton.mp h'];simp;omega
   have ana:Hid ((gs++[w3.heap.size]).Pairwise (· < ·)):=List.pairwise_append.mpr ⟨Js.out,List.pairwise_singleton _ _,fun a ha b hb=>by
    rw[List.mem_singleton.mp hb];have:=AK.out a ha;omega⟩
   have anb:Hid (∀(j:Nat) g' l',(gs++[w3.heap.size])[j]?=some g'->((us.take (k+1)).map (iY md cells))[j]?=some l'->aj ((w4.setCell ⟨w.heap.size,k,none⟩ (.slice (some ⟨w3.heap.size,0,none⟩) l.length l.length)).setRow w3.heap.size (l.map (Value.int .i64)).toArray) g' 3 (l'.map (Value.int .i64)).toArray):=fun j g' l' fQ ij=>by
    rw[vJ.out] at ij;by_cases cj:j<k
    ·rw[rn (by rw[lq.out];exact cj)] at fQ
     rw[rn (by rw[ur.out];exact cj)] at ij;have hb:=AK.out g' (bV fQ);exact((wY.out j g' l' fQ ij).kept Zp.out (by simp;omega)).kept Ju (by simp;omega)
    ·rw[oL (by rw[lq.out];omega),lq.out] at fQ
     rw[oL (by rw[ur.out];omega),ur.out] at ij;have ej:j-k=0:=by
      rcases Nat.eq_zero_or_pos (j-k) with h' | h'
      ·exact h'
      ·rw[cX (by simp;omega)] at fQ;exact aN fQ (by simp)
     rw[ej] at fQ ij;simp at fQ ij;subst fQ ij;exact Na.out
   clear Ju R7 mC Zn Na;go_wp2_with (refine wpList_copy_own rfl _ _ 32 32 rfl 3 underlying32 (by rw[hj];simp[p9]) w3.heap.size 0 l.length l.length ⟨ga,off,none⟩ l.length cl rfl rfl (List.replicate l.length (Value.int .i64 0)).toArray 3 ow.out (l.map (Value.int .i64)) (by simp) RW.out (by simp) (by intro v hv;obtain⟨q,-,rfl⟩:=List.mem_map.mp hv;rfl) ?_;rw[am8.out]);go_roundw
   case rel=>exact⟨k+1,gs++[w3.heap.size],by omega,by go_num,by simp[lq.out],At.out,ana.out,am9.out,anb.out,kD.out⟩
   case measure=>simp[intOf];omega
  ·obtain rfl:k=us.length:=by omega
   have HF:Hid (NB wr w.heap.size w.heap.size gs (us.map (iY md cells))):=by
    rw[jo,Nat.sub_self] at bU;have e:=wY.out;rw[jo] at e;exact⟨by rw[gN,jh],by simpa[xA] using bU,bj _,Js.out,fun g' fQ=>(AK.out g' fQ).1,e⟩
   clear bU aF;go_wp2;go_ret;exact⟨⟨w.heap.size,gs,rfl,HF.out⟩,bH.out⟩
def vQ(w:World)(base:Nat)(v:Value)(gs:List (Nat×Nat)):Prop:=
 w.ownsRow base 38 1 v gs.length (gs.map fun p=>Value.slice (some ⟨p.1,0,none⟩) p.2 p.2)/\∀p∈gs,p.2<=1000/\aj w p.1 32 (List.replicate p.2 zs).toArray
theorem vQ.Z{w w':World}{base:Nat}{v:Value}{gs:List (Nat×Nat)}(h:vQ w base v gs)(hg:w.grownBy w' none):vQ w' base v gs:=
 ⟨eW h.1 hg,fun p hp=>⟨(h.2 p hp).1,(h.2 p hp).2.kept hg (by simp)⟩⟩
theorem R8(b base:Nat)(a:Option Addr)(n c:Nat)(gs:List (Nat×Nat))(w:World)(hc:w.cell? ⟨b,9,none⟩=some (.slice a n c))(hE:vQ w base (.slice a n c) gs)(hl:gs.length<=1000000000) :
  Calls prog 49 #[.pointer (some ⟨b,0,none⟩)] w fun e w'=>e=.returned (.bool true)/\w'=w:=by
 have hn:n=gs.length:=by obtain⟨ao,c',e⟩:=gY hE.1;injection e with _ e _
 subst hn;have HE:=ae hE;clear hE;go_enter func49,ntmps49;go_wp2;go_loopw[3] (fun i wr=>∃k:Nat,k<=gs.length/\i=.int .i64 k/\wr=w) (fun i _=>gs.length-(intOf i).toNat)
 case atStart=>exact⟨0,bK _,rfl,rfl⟩
 case round=>
  obtain⟨k,hk,rfl,rfl⟩:=hrel;by_cases aK:k<gs.length
  ·obtain⟨p,hp⟩:∃p,gs[k]?=some p:=⟨_,aT aK⟩
   obtain⟨g,rfl,-,-,kS⟩:=nZ HE.out.1 (by omega);have d1:wr.cell? ⟨g,k,none⟩=some (.slice (some ⟨p.1,0,none⟩) p.2 p.2):=by rw[kS k (by omega),dY,hp];rfl
   obtain⟨fY,hB⟩:=HE.out.2 p (bV hp);have HB:=ae hB;obtain⟨q,m⟩:=p;simp only at fY d1 HB;clear kS hp hB;obtain⟨wq,Ed⟩:∃q,Hid (q=wr):=⟨_,rfl⟩;go_wp2;go_loopw[4] (fun i wp=>∃t:Nat,t<=m/\i=.int .i64 t/\wp=wq) (fun i _=>m-(intOf i).toNat)
   case atStart=>exact⟨0,bK _,rfl,Ed.out.symm⟩
   case round=>
    obtain⟨t,ht,rfl,xB⟩:=hrel;rw[Ed.out] at xB;subst xB;by_cases kZ:t<m
    ·have d2:wr.cell? ⟨q,t,none⟩=some (.slice none 0 0):=by rw[HB.out.cell t];simp[kZ,zs]
     go_wp2;go_roundw
     case rel=>exact⟨t+1,by omega,by go_num,Ed.out.symm⟩
     case measure=>simp[intOf];omega
    ·obtain rfl:t=m:=by omega
     go_wp2;go_roundw
     case rel=>exact⟨k+1,by omega,by go_num,trivial⟩
     case measure=>simp[intOf];omega
  ·obtain rfl:k=gs.length:=by omega
   go_wp2;go_ret;exact⟨rfl,rfl⟩
end Go.Proofs.YtcnhfffgbamonabGreat
