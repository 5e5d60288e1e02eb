import Derived.Laws.CopyOwn
import Derived.Test.YtcnhfffgbamonaaGreatZ18
set_option maxRecDepth 100000
set_option maxHeartbeats 6400000
namespace Go.Proofs.YtcnhfffgbamonaaGreat
open Go.Proofs.Tryz
open Go.RowKit
def Sl(w:World)(v:Value)(l:List Int):Prop:=
 ∃(ao:Option Addr) (c:Nat),v=.slice ao l.length c/\∀(i:Nat) x,l[i]?=some x->∃a,ao=some a/\w.cell? (a.add i)=some (.int .i64 x)
theorem Sl.Z{w w':World}{v:Value}{l:List Int}(h:Sl w v l)(hg:w.grownBy w' none):Sl w' v l:=by
 obtain⟨ao,c,e,h⟩:=h;exact⟨ao,c,e,fun i x hx=>by obtain⟨a,ea,ha⟩:=h i x hx;exact⟨a,ea,aG hg ha⟩⟩
theorem Sl.len{w:World}{ao:Option Addr}{n c:Nat}{l:List Int}(h:Sl w (.slice ao n c) l):n=l.length:=by
 obtain⟨_,_,e,_⟩:=h;injection e with _ e _
theorem Sl.get{w:World}{ao:Option Addr}{n c:Nat}{l:List Int}(h:Sl w (.slice ao n c) l)(i:Nat)(x:Int)(hx:l[i]?=some x):∃a,ao=some a/\w.cell? (a.add i)=some (.int .i64 x):=by
 obtain⟨_,_,e,h⟩:=h;injection e with e _ _;subst e;exact h i x hx
theorem aZ.sl{w:World}{B:Nat}{ao:Option Addr}{n c:Nat}{l:List Int}(h:aZ w B (.slice ao n c) l):Sl w (.slice ao n c) l:=by
 have hn:=h.len;subst hn;refine⟨ao,c,rfl,fun i x hx=>?_⟩;obtain⟨g,rfl,-,-,d⟩:=h.get i x hx;have e:(⟨g,0,none⟩:Addr).add i=⟨g,i,none⟩:=by unfold Addr.add;split<;>simp_all
 exact⟨_,rfl,by rw[e];exact d⟩
def rZ(w:World)(v:Value)(ls:List (List Int)):Prop:=
 ∃(ao:Option Addr) (c:Nat),v=.slice ao ls.length c/\∀(i:Nat) l,ls[i]?=some l->∃a b c',ao=some a/\w.cell? (a.add i)=some (.slice b l.length c')/\Sl w (.slice b l.length c') l
theorem rZ.Z{w w':World}{v:Value}{ls:List (List Int)}(h:rZ w v ls)(hg:w.grownBy w' none):rZ w' v ls:=by
 obtain⟨ao,c,e,h⟩:=h;exact⟨ao,c,e,fun i x hx=>by obtain⟨a,b,c',ea,ha,hs⟩:=h i x hx;exact⟨a,b,c',ea,aG hg ha,hs.Z hg⟩⟩
theorem rZ.len{w:World}{ao:Option Addr}{n c:Nat}{ls:List (List Int)}(h:rZ w (.slice ao n c) ls):n=ls.length:=by
 obtain⟨_,_,e,_⟩:=h;injection e with _ e _
theorem rZ.get{w:World}{ao:Option Addr}{n c:Nat}{ls:List (List Int)}(h:rZ w (.slice ao n c) ls)(i:Nat)(l:List Int)(hl:ls[i]?=some l):∃a b c',ao=some a/\w.cell? (a.add i)=some (.slice b l.length c')/\Sl w (.slice b l.length c') l:=by
 obtain⟨_,_,e,h⟩:=h;injection e with e _ _;subst e;exact h i l hl
theorem NZ{l:List Int}{k:Nat}{v:Int}(h:l[k]?=some v)(hv:D.lq v=false):l.all D.lq=false:=by
 rw[List.all_eq_false];exact⟨v,bU h,by rw[hv];decide⟩
theorem ZR{l:List Int}(h:∀(j:Nat) v,l[j]?=some v->D.lq v=true):l.all D.lq=true:=by
 rw[jn];intro v hv;obtain⟨j,hj⟩:=mQ hv;exact h j v hj
theorem anX(a:Option Addr)(n c:Nat)(l:List Int)(w:World)(hI:Sl w (.slice a n c) l)(hl:l.length<=9223372036854775807) :
  Calls prog 120 #[.slice a n c] w fun e w'=>e=.returned (.bool (l.all D.lq))/\w'=w:=by
 obtain rfl:=hI.len;go_enter func120,ntmps120;go_wp2;go_loopw[7] (fun i wr=>∃k:Nat,k<=l.length/\i=.int .i64 k/\Hid (∀(j:Nat) v,j<k->l[j]?=some v->D.lq v=true)/\wr=w) (fun i _=>l.length-(intOf i).toNat)
 case atStart=>exact⟨0,bK _,rfl,fun j v hj=>aN hj (by omega),rfl⟩
 case round=>
  obtain⟨k,hk,rfl,jY,rfl⟩:=hrel;by_cases aJ:k<l.length
  ·obtain⟨v,hv⟩:∃v,l[k]?=some v:=⟨_,aS aJ⟩
   obtain⟨g,rfl,d0⟩:=hI.get k v hv;have Hv:=ae hv;clear hv hI;by_cases h1:v < -128
   ·have He:=ae (NZ Hv.out (by unfold D.lq;rw[show decide (-128<=v)=false from by simp;omega];rfl))
    go_wp2;go_ret;exact⟨bB He.out.symm,rfl⟩
   ·by_cases h2:127<v
    ·have He:=ae (NZ Hv.out (by unfold D.lq;rw[show decide (v<=127)=false from by simp;omega];simp))
     go_wp2;go_ret;exact⟨bB He.out.symm,rfl⟩
    ·have fm:Hid (∀(j:Nat) u,j<k+1->l[j]?=some u->D.lq u=true):=fun j u hj hu=>by
      rcases cE j k with h' |h'
      ·exact jY.out j u h' hu
      ·obtain rfl:j=k:=by omega
       rw[Hv.out] at hu;injection hu with hu;subst hu;unfold D.lq;simp;omega
     go_wp2;go_roundw
     case rel=>exact⟨k+1,by omega,by go_num,fm.out,trivial⟩
     case measure=>simp[intOf];omega
  ·obtain rfl:k=l.length:=by omega
   have He:=ae (ZR fun j v hv=>jY.out j v (by
    rcases cE j l.length with h' |h'
    ·exact h'
    ·rw[db h'] at hv;exact aN hv (by simp)) hv)
   clear hI;go_wp2;go_ret;exact⟨bB He.out.symm,rfl⟩
theorem ZS{md:M.Md}{ins:List (List Int)}(h:ins.length≠(gC md.au).length):D.jP md ins=false:=by
 unfold D.jP;rw[show((ins.map fun l=>(l.length:Int))==D.BZ md)=false from by
  rw[beq_eq_false_iff_ne];intro e;have:=congrArg List.length e;rw[jb] at this;exact h this]
 rfl
theorem ZT{md:M.Md}{ins:List (List Int)}{k:Nat}{l:List Int}{x:Int}(h:ins[k]?=some l)(hx:(gC md.au)[k]?=some x)(ey:(l.length:Int)≠x):D.jP md ins=false:=by
 unfold D.jP;rw[show((ins.map fun l=>(l.length:Int))==D.BZ md)=false from by
  rw[beq_eq_false_iff_ne];intro e;have:=congrArg (fun q=>q[k]?) e;simp only[dV,h] at this;rw[show(D.BZ md)[k]?=some x from hx] at this;injection this with this;exact ey this]
 rfl
theorem Sv{md:M.Md}{ins:List (List Int)}{k:Nat}{l:List Int}(h:ins[k]?=some l)(ey:l.all D.lq=false):D.jP md ins=false:=by
 unfold D.jP;rw[show(ins.all fun l=>l.all D.lq)=false from by
  rw[List.all_eq_false];exact⟨l,bU h,by rw[ey];decide⟩]
 simp
theorem ZU{md:M.Md}{ins:List (List Int)}(hl:ins.length=(gC md.au).length)(h:∀(k:Nat) l x,ins[k]?=some l->(gC md.au)[k]?=some x->(l.length:Int)=x/\l.all D.lq=true):D.jP md ins=true:=by
 have cF:∀(k:Nat) l,ins[k]?=some l->∃x,(gC md.au)[k]?=some x:=by
  intro k l hk;have aJ:k<ins.length:=by
   rcases cE k ins.length with h' |h'
   ·exact h'
   ·rw[db h'] at hk;exact aN hk (by simp)
  exact⟨_,aS (by omega)⟩
 unfold D.jP;rw[eX,beq_iff_eq,jn];refine⟨?_,fun l hm=>?_⟩
 ·apply nM
  intro k;rw[dV];show _=(gC md.au)[k]?
  cases hk:ins[k]? with
  |none=>
   have:ins.length<=k:=List.getElem?_eq_none_iff.mp hk;rw[db (by omega)];rfl
  |some l=>
   obtain⟨x,hx⟩:=cF k l hk;rw[hx,Option.map_some,(h k l x hk hx).1]
 ·obtain⟨k,hk⟩:=mQ hm
  obtain⟨x,hx⟩:=cF k l hk;exact(h k l x hk hx).2
def je(md:M.Md)(n:Int):Int:=if n<0\/((pD md).aW.length:Int)<=n then -1 else (pD md).aW.getD n.toNat 0
theorem N5(p:Nat)(md:M.Md)(n:Int)(w:World)(hP:Pl w p md) :
  Calls prog 88 #[.pointer (some ⟨p,0,none⟩),.int .i64 n] w fun e w'=>e=.returned (.int .i64 (je md n))/\w'=w:=by
 obtain⟨m,an,cn,ab,cb,-,-,hB,-,hN,-,-,h1⟩:=hP;have q2:w.cell? ⟨p,2,none⟩=some (.slice an (pD md).aW.length cn):=hB.cell 2;have tF:=hB.lt;clear hB h1;by_cases h0:n<0
 ·have He:=ae (show je md n = -1 by unfold je;rw[ay (.inl h0)])
  clear hN;go_enter func88,ntmps88;go_wp2;go_ret;exact⟨cH He.out.symm,rfl⟩
 ·by_cases h1:((pD md).aW.length:Int)<=n
  ·have He:=ae (show je md n = -1 by unfold je;rw[ay (.inr h1)])
   clear hN;go_enter func88,ntmps88;go_wp2;go_ret;exact⟨cH He.out.symm,rfl⟩
  ·obtain⟨k,rfl⟩:=fT (show 0<=n by omega)
   obtain⟨b,hb⟩:∃b,(pD md).aW[k]?=some b:=⟨_,aS (by omega)⟩;obtain⟨g,rfl,-,-,d0⟩:=hN.get k b hb;have He:=ae (show je md k=b by unfold je;rw[ak (by omega),eC,getD_some hb]);clear hb hN;go_enter func88,ntmps88;go_wp2;go_ret;exact⟨cH He.out.symm,rfl⟩
theorem Sw{md:M.Md}(h:O.iP md):H.mS md.au (pM md).au:=by
 obtain⟨C,S⟩:=H.Nx h;exact H.X7 S
theorem CF{md:M.Md}(h:O.iP md):H.fO (pM md)=(gC md.au).length:=by
 rw[H.Nb,(Sw h).cy,(Sw h).1];unfold H.cy gC;rw[jm,jb]
 rfl
theorem N6:∀{ts:List M.Tn} {n:Nat} {t:M.Tn},ts[n]?=some t->t.af=0->(gC ts)[H.cy ts n]?=some (M.cellsOf t)
 | [],n,t,h,_=>aN h (by simp)
 |u::ts,0,t,h,h0=>by
  simp at h;subst h;unfold gC H.cy;simp[h0]
 |u::ts,n+1,t,h,h0=>by
  have ih:=N6 (ts:=ts) (n:=n) (by simpa using h) h0;unfold gC H.cy at *;rw[List.take_succ_cons,List.filter_cons,List.filter_cons];by_cases c:u.af=0
  ·have c':H.qu u=true:=by unfold H.qu;simp[c]
   rw[ay (by simp[c]),ay c']
   simpa using ih
  ·have c':¬H.qu u=true:=by unfold H.qu;simp[c]
   rw[ak (by simp[c]),ak c'];exact ih
theorem anY{md:M.Md}(h:O.iP md):gC (pM md).au=gC md.au:=(Sw h).filter
theorem ZV{md:M.Md}(h:O.iP md){i:Nat}{x:Int}(hx:(gC md.au)[i]?=some x):∃b,(pB md)[i]?=some b/\b.c=x/\i<H.fO (pM md):=by
 obtain⟨C,S⟩:=FT h;have A:=H.FI S;have hi:i<H.fO (pM md):=by rw[CF h];exact M.bP hx
 obtain⟨n,t,hn,k0,e⟩:=A.P.l0 i hi;have hb:=A.P.n0 n t hn k0;have dh:=A.P.lt (M.bP hn) hb.1;rw[e] at hb dh;have hl:i<(pB md).length:=by rw[show(pB md).length=(pD md).lv.length from A.L.len];exact dh
 refine⟨_,aS hl,?_,hi⟩;have e1:((pB md).getD i H.aV).c=((pD md).lv.getD i H.bQ).c:=A.L.c i dh;rw[getD_some (aS hl)] at e1;rw[e1,show((pD md).lv.getD i H.bQ).c=M.cellsOf t from hb.2.2.2];have e2:=N6 hn k0;rw[e,anY h,hx] at e2;injection e2 with e2;exact e2.symm
theorem AV{md:M.Md}(h:O.iP md):Ea (pB md)/\(pB md).length=(pD md).lv.length/\(pB md).length<=100/\(pD md).aW.length<=24/\H.fO (pM md)<=24:=by
 obtain⟨C,S⟩:=FT h;have A:=H.FI S;have e1:(pD md).lv.length=H.fO (pM md)+(pM md).ag.length:=A.P.ll;have e2:=H.Nb (pM md);have e3:H.cy (pM md).au (pM md).au.length<=(pM md).au.length:=by unfold H.cy;exact jN (List.length_filter_le _ _) (by simp)
 have e4:(pD md).aW.length=(pM md).au.length:=A.P.ln;have:=S.nt;have:=S.no;have ok:=ZO (A.P.lr A.S) (by show(pD md).lv.length<=100;omega) (pD md).lv.length;exact⟨ok.1,ok.2,by rw[show(pB md).length=(pD md).lv.length from ok.2];omega,by omega,by omega⟩
theorem anZ(p:Nat)(md:M.Md)(w:World)(hP:Pl w p md) :
  Calls prog 76 #[.pointer (some ⟨p,0,none⟩)] w fun e w'=>e=.returned (.int .i64 (gC md.au).length)/\w'=w:=by
 obtain⟨m,an,cn,ab,cb,-,-,hB,-,-,-,-,h1⟩:=hP;have q1:w.cell? ⟨p,1,none⟩=some (.int .i64 (H.fO (pM md))):=hB.cell 1;rw[CF h1] at q1;clear hB h1;go_enter func76,ntmps76;go_wp2;go_ret;exact⟨rfl,rfl⟩
theorem ZW(p i:Nat)(x:Int)(md:M.Md)(w:World)(hP:Pl w p md)(hx:(gC md.au)[i]?=some x) :
  Calls prog 78 #[.pointer (some ⟨p,0,none⟩),.int .i64 i] w fun e w'=>e=.returned (.int .i64 x)/\w'=w:=by
 obtain⟨m,an,cn,ab,cb,-,-,hB,-,-,hF,-,h1⟩:=hP;obtain⟨b,hb,hc,hi⟩:=ZV h1 hx;have ok:=AV h1;have q1:w.cell? ⟨p,1,none⟩=some (.int .i64 (H.fO (pM md))):=hB.cell 1;have q3:w.cell? ⟨p,3,none⟩=some (.slice ab (pB md).length cb):=hB.cell 3;obtain⟨g,rfl,-,-,d1⟩:=mT.get hF i b hb;rw[hc] at d1;have hl:=M.bP hb;have iq:=ok.2.2.1;have kl:=ok.2.2.2.2;clear hB h1 hF hb hc ok hx;go_enter func78,ntmps78;go_wp2;go_ret;exact⟨rfl,rfl⟩
theorem ZX(p:Nat)(md:M.Md)(w:World)(hP:Pl w p md) :
  Calls prog 75 #[.pointer (some ⟨p,0,none⟩)] w fun e w'=>e=.returned (.int .i64 (H.gU (pB md)))/\w.grownBy w' none:=by
 obtain⟨m,an,cn,ab,cb,-,-,hB,-,-,hF,-,h1⟩:=hP;have ok:=AV h1;have q3:w.cell? ⟨p,3,none⟩=some (.slice ab (pB md).length cb):=hB.cell 3;have HC:=ae (X9 0 ab (pB md).length cb (pB md) w hF (by omega) ok.1);clear hB h1 hF ok;go_enter func75,ntmps75;go_wp2_with fail;refine HC.out.mono ?_;rintro e w1⟨rfl,aH⟩;have dN:=ae aH;clear aH;go_wp2;go_ret;exact⟨rfl,dN.out⟩
theorem an0(p:Nat)(md:M.Md)(a:Option Addr)(n c:Nat)(ins:List (List Int))(w:World)(hP:Pl w p md)(hI:rZ w (.slice a n c) ins)(hl:∀l∈ins,l.length<=9223372036854775807)(hn:ins.length<=9223372036854775807) :
  Calls prog 84 #[.pointer (some ⟨p,0,none⟩),.slice a n c] w fun e w'=>e=.returned (.bool (D.jP md ins))/\w'=w:=by
 obtain rfl:=hI.len;have HP:=ae hP;obtain⟨m,an,cn,ab,cb,-,-,hB,-,-,-,-,h1⟩:=hP;have hLn:=(AV h1).2.2.2.2;have d0:w.cell? ⟨p,1,none⟩=some (.int .i64 (H.fO (pM md))):=hB.cell 1;rw[CF h1] at d0 hLn;clear hB h1;by_cases hc:ins.length=(gC md.au).length
 ·have hb:((ins.length:Int)!=((gC md.au).length:Int))=false:=by simp;omega
  have Hc:=ae hc;have Hl:=ae hl;clear hc hl;go_enter func84,ntmps84;go_wp2;go_loopw[17] (fun i wr=>∃k:Nat,k<=ins.length/\i=.int .i64 k/\Hid (∀(j:Nat) l x,j<k->ins[j]?=some l->(gC md.au)[j]?=some x->(l.length:Int)=x/\l.all D.lq=true)/\wr=w) (fun i _=>ins.length-(intOf i).toNat)
  case atStart=>exact⟨0,bK _,rfl,fun j l x hj=>aN hj (by omega),rfl⟩
  case round=>
   obtain⟨k,hk,rfl,jY,rfl⟩:=hrel;by_cases aJ:k<ins.length
   ·have lk:k<(gC md.au).length:=by rw[<-Hc.out];exact aJ
    obtain⟨l,hv⟩:∃l,ins[k]?=some l:=⟨_,aS aJ⟩;obtain⟨x,hx⟩:∃x,(gC md.au)[k]?=some x:=⟨_,aS lk⟩;obtain⟨g,ao,c',rfl,d1,JQ⟩:=hI.get k l hv;have oF:=Hl.out l (bU hv);have HC:=ae (ZW p k x md wr HP.out hx);have HIl:=ae JQ;have Hv:=ae hv;have Hx:=ae hx;clear hv hx hI JQ d0;go_wp2_with fail;refine HC.out.mono ?_;rintro e w1⟨rfl,rfl⟩;clear HC;by_cases h1:(l.length:Int)=x
    ·have yL:((l.length:Int)!=x)=false:=by simp[h1]
     have H1:=ae h1;clear h1;go_wp2_with fail;refine(anX ao l.length c' l _ HIl.out oF).mono ?_;rintro e w2⟨rfl,rfl⟩
     cases h2:l.all D.lq with
     |false=>
      have He:=ae (Sv (md:=md) Hv.out h2);go_wp2;go_ret;exact⟨bB He.out.symm,rfl⟩
     |true=>
      have fm:Hid (∀(j:Nat) u z,j<k+1->ins[j]?=some u->(gC md.au)[j]?=some z->(u.length:Int)=z/\u.all D.lq=true):=fun j u z hj hu hz=>by
       rcases cE j k with h' |h'
       ·exact jY.out j u z h' hu hz
       ·obtain rfl:j=k:=by omega
        rw[Hv.out] at hu;rw[Hx.out] at hz;injection hu with hu;injection hz with hz;subst hu hz;exact⟨H1.out,h2⟩
      go_wp2;go_roundw
      case rel=>exact⟨k+1,by omega,by go_num,fm.out,trivial⟩
      case measure=>simp[intOf];omega
    ·have yL:((l.length:Int)!=x)=true:=by simp[h1]
     have He:=ae (ZT Hv.out Hx.out h1);clear h1;go_wp2;go_ret;exact⟨bB He.out.symm,rfl⟩
   ·obtain rfl:k=ins.length:=by omega
    have He:=ae (ZU Hc.out fun j l x hl hx=>jY.out j l x (by
     rcases cE j ins.length with h' |h'
     ·exact h'
     ·rw[db h'] at hl;exact aN hl (by simp)) hl hx)
    clear hI;go_wp2;go_ret;exact⟨bB He.out.symm,rfl⟩
 ·have hb:((ins.length:Int)!=((gC md.au).length:Int))=true:=by simp;omega
  have He:=ae (ZS hc);clear hc hI;go_enter func84,ntmps84;go_wp2;go_ret;exact⟨bB He.out.symm,rfl⟩
theorem FU(a a':Option Addr)(n c n' c':Nat)(xs ys:List Int)(w:World)(hX:Sl w (.slice a n c) xs)(hY:Sl w (.slice a' n' c') ys)(hl:xs.length<=9223372036854775807)(_hl':ys.length<=9223372036854775807) :
  Calls prog 19 #[.slice a n c,.slice a' n' c'] w fun e w'=>e=.returned (.bool (decide (xs=ys)))/\∃nd,w'=w.drewN nd:=by
 have hn:=hX.len;have oU:=hY.len;subst hn;subst oU;by_cases ey:xs.length=ys.length
 ·have hb:((xs.length:Int)!=(ys.length:Int))=false:=by simp;omega
  have CG:=ae ey;clear ey;go_enter func19,ntmps19;go_wp2;go_loopw[5] (fun i wr=>∃k:Nat,k<=xs.length/\i=.int .i64 k/\(∀j,j<k->xs[j]?=ys[j]?)/\∃nd,wr=w.drewN nd) (fun i _=>xs.length-(intOf i).toNat)
  case atStart=>exact⟨0,bK _,rfl,fun j hj=>by omega,0,rfl⟩
  case round=>
   obtain⟨k,hk,rfl,kL,nd,Et⟩:=hrel;have aF:w.grownBy wr none:=by rw[Et];exact bE w nd none
   have Sx:=ae Et;clear Et;have jY:=ae kL;clear kL;by_cases aJ:k<xs.length
   ·have ZY:k<ys.length:=by rw[<-CG.out];exact aJ
    obtain⟨x,hx⟩:∃x,xs[k]?=some x:=⟨_,aS aJ⟩;obtain⟨y,hy⟩:∃y,ys[k]?=some y:=⟨_,aS ZY⟩;obtain⟨g,rfl,d0⟩:=(hX.Z aF).get k x hx;obtain⟨g',rfl,d1⟩:=(hY.Z aF).get k y hy;have Hx:=ae hx;have Hy:=ae hy;clear hx hy hX hY
    cases AW:(x !=y) with
    |true=>
     have He:=ae (anV Hx.out Hy.out (by simpa using AW));go_wp2;go_quiet(fail);go_wp2;go_ret;exact⟨bB He.out.symm,nd+nq,by rw[Sx.out,World.drewN_drewN]⟩
    |false=>
     have fm:=ae (show ∀j,j<k+1->xs[j]?=ys[j]? from fun j hj=>by
      rcases cE j k with h' |h'
      ·exact jY.out j h'
      ·obtain rfl:j=k:=by omega
       have e:x=y:=by simpa using AW
       rw[Hx.out,Hy.out,e])
     go_wp2;go_quiet(fail);go_wp2;go_roundw
     case rel=>exact⟨k+1,by omega,by go_num,fm.out,nd+nq,by rw[Sx.out,World.drewN_drewN]⟩
     case measure=>simp[intOf];omega
   ·obtain rfl:k=xs.length:=by omega
    have He:=ae (anW CG.out jY.out);clear hX hY;go_wp2;go_ret;exact⟨bB He.out.symm,nd,Sx.out⟩
 ·have hb:((xs.length:Int)!=(ys.length:Int))=true:=by simp;omega
  have He:=ae (show decide (xs=ys)=false from by rw[eE];intro e;exact ey (by rw[e]));clear ey hX hY;go_enter func19,ntmps19;go_wp2;go_ret;exact⟨bB He.out.symm,0,rfl⟩
theorem Sy(ao:Option Addr)(n c:Nat)(l:List Int)(mark:Int)(w:World)(hS:Sl w (.slice ao n c) l)(hl:l.length<=1000000)(h0:0<=mark)(h1:mark<=4611686018427387904)(hm:∀(i:Nat) x,l[i]?=some x->x = -mark-7) :
  Calls prog 92 #[.slice ao n c,.int .i64 mark] w fun e w'=>e=.returned (.bool true)/\w'=w:=by
 obtain rfl:=hS.len;have Hm:=ae hm;have HS:=ae hS;clear hm hS;have JR:(-mark-7 !=-mark-7)=false:=by simp
 go_enter func92,ntmps92;go_wp2;go_loopw[5] (fun i wr=>∃k:Nat,k<=l.length/\i=.int .i64 k/\wr=w) (fun i _=>l.length-(intOf i).toNat)
 case atStart=>exact⟨0,bK _,rfl,rfl⟩
 case round=>
  obtain⟨k,hk,rfl,rfl⟩:=hrel;by_cases aJ:k<l.length
  ·obtain⟨x,hx⟩:∃x,l[k]?=some x:=⟨_,aS aJ⟩
   obtain⟨a,rfl,d0⟩:=HS.out.get k x hx;have AX:=Hm.out k x hx;subst AX;clear hx;go_wp2;go_roundw
   case rel=>exact⟨k+1,by omega,by go_num,trivial⟩
   case measure=>simp[intOf];omega
  ·obtain rfl:k=l.length:=by omega
   go_wp2;go_ret;exact⟨rfl,rfl⟩
def lfillTo(cs:Array Value)(v:Value):Nat->Array Value
 |0=>cs
 |k+1=>(lfillTo cs v k).setIfInBounds k v
theorem Z0(cs:Array Value)(v:Value)(k:Nat):(lfillTo cs v k).size=cs.size:=by
 induction k with
 |zero=>rfl
 |succ k ih=>unfold lfillTo;rw[Array.size_setIfInBounds,ih]
theorem Z6(cs:Array Value)(v:Value)(k:Nat)(i:Nat)(h:i<cs.size):(lfillTo cs v k)[i]?=if i<k then some v else cs[i]?:=by
 induction k with
 |zero=>simp[lfillTo]
 |succ k ih=>
  unfold lfillTo;rw[JB,Z0];by_cases e:k=i
  ·subst e
   rw[ay rfl,ay h,ay (by omega)]
  ·rw[ak e,ih]
   by_cases c:i<k
   ·rw[ay c,ay (by omega)]
   ·rw[ak c,ak (by omega)]
theorem Sz(g c:Nat)(cs:Array Value)(mark:Int)(w:World)(hB:aj w g 3 cs)(hn:∀i,i<cs.size->∃x,cs[i]?=some (.int .i64 x))(hl:cs.size<=1000000)(h0:0<=mark)(h1:mark<=4611686018427387904) :
  Calls prog 119 #[.slice (some ⟨g,0,none⟩) cs.size c,.int .i64 mark] w fun e w'=>e=.returned (.tuple #[])/\aj w' g 3 (lfillTo cs (.int .i64 (-mark-7)) cs.size)/\w.grownBy w' (some g):=by
 have HB:=ae hB;have Hn:=ae hn;clear hB hn;go_enter func119,ntmps119;go_wp2;go_loopw[4] (fun i wr=>∃k:Nat,k<=cs.size/\i=.int .i64 k/\Hid (aj wr g 3 (lfillTo cs (.int .i64 (-mark-7)) k))/\w.grownBy wr (some g)) (fun i _=>cs.size-(intOf i).toNat)
 case atStart=>exact⟨0,bK _,rfl,HB.out,fZ _ _⟩
 case round=>
  obtain⟨k,hk,rfl,eK,aF⟩:=hrel;by_cases aJ:k<cs.size
  ·obtain⟨x,hx⟩:=Hn.out k aJ
   have d0:wr.cell? ⟨g,k,none⟩=some (.int .i64 x):=by rw[eK.out.cell k,Z6 _ _ _ _ aJ,ak (by omega)];exact hx
   have f0:=eK.out.free k;have dh:=eK.out.lt;have iD:=ae (eK.out.set k (.int .i64 (-mark-7)));have dU:=ae (aC aF (bD wr g k (.int .i64 (-mark-7))));clear aF hx eK;go_wp2;go_roundw
   case rel=>exact⟨k+1,by omega,by go_num,iD.out,dU.out⟩
   case measure=>simp[intOf];omega
  ·obtain rfl:k=cs.size:=by omega
   have dU:=ae aF;clear aF;go_wp2;go_end0;exact⟨rfl,eK.out,dU.out⟩
theorem SB(ao:Option Addr)(n c:Nat)(l:List Int)(w:World)(hS:Sl w (.slice ao n c) l)(hl:l.length<=1000000000) :
  Calls prog 17 #[.slice ao n c] w fun e w'=>e=.returned (.slice (some ⟨w.heap.size,0,none⟩) l.length l.length)/\aj w' w.heap.size 3 (l.map (Value.int .i64)).toArray/\w.grownBy w' none:=by
 obtain rfl:=hS.len;have HS:=ae hS;clear hS;obtain⟨i0,hi,cP,cQ,cZ⟩:=info_parts Tryz.oO;have ju:(prog.info? 3).map (·.size)=some 1:=by rw[hi];simp[cQ]
 have CH:=ae ju;clear ju;go_enter func17,ntmps17;go_wp2_with(at_make;refine qg _ rfl _ _ 33 rfl w.heap.size 3 i0 (.int .i64 0) 1 underlying33 hi cP cQ _ _ _ _ l.length rfl rfl rfl rfl ?c1 ?c2 ?c3 ?_)
 case c1=>rw[cZ];omega
 case c2=>unfold maxLen;omega
 case c3=>exact bj _
 intro w1 cB aH;have HB:Hid (w1.heap[w.heap.size]?=some (.cells (List.replicate l.length (Value.int .i64 0)).toArray 3 (0,0))):=xl cB;have jA:=ae (HS.out.Z aH);have Z7:=ae (xj aH);clear cB hi cP cQ cZ HS;obtain⟨w2,hr,ff,JS⟩:∃w2,(Builtin.copy_ #[33,33] 3 #[.slice (some ⟨w.heap.size,0,none⟩) l.length l.length,.slice ao l.length c]).run prog w1=.ok (goInt l.length) w2/\aj w2 w.heap.size 3 (l.map (Value.int .i64)).toArray/\w.grownBy w2 none:=by
  by_cases h0:l.length=0
  ·have e:l=[]:=List.eq_nil_of_length_eq_zero h0
   subst e;exact⟨w1,run_copy_none (P:=prog) w1 33 33 3 3 _ _ _ _ _ _ underlying33 CH.out rfl,HB.out,aH⟩
  ·obtain⟨x,hx⟩:∃x,l[0]?=some x:=⟨_,aS (by omega)⟩
   obtain⟨a,rfl,-⟩:=jA.out.get 0 x hx;have N7:=run_copy_row (P:=prog) w1 33 33 3 3 w.heap.size 0 l.length l.length a l.length c _ 3 (l.map (Value.int .i64)) underlying33 CH.out HB.out (by simp) (fun j v hv=>by
    rw[dV] at hv
    cases hj:l[j]? with
    |none=>rw[hj] at hv;simp at hv
    |some y=>
     rw[hj] at hv;injection hv with hv;subst hv;obtain⟨a',e,d⟩:=jA.out.get j y hj;injection e with e;subst e;exact d) (by simp) (by intro v hv;obtain⟨x,-,rfl⟩:=List.mem_map.mp hv;rfl)
   rw[jb] at N7;refine⟨_,N7,?_,BE (below_setRow Z7.out (bj _) _)⟩;unfold aj;rw[setRow_heap w1 w.heap.size _ _ 3 _ HB.out];simp
 have iD:=ae ff;have dU:=ae JS;clear ff JS aH HB jA Z7;go_wp2;go_ret;exact⟨rfl,iD.out,dU.out⟩
def Eu(b:Nat):Int:=if 127<b then (b:Int)-256 else b
def yY(s:ByteArray):List Int:=s.data.toList.map fun b=>Eu b.toNat
theorem SC(s:ByteArray):(yY s).length=s.size:=by unfold yY;rw[jb];exact Array.length_toList
theorem N8(s:ByteArray)(k:Nat)(h:k<s.size):(yY s)[k]?=some (Eu (s[k]'h).toNat):=by
 unfold yY;rw[dV];have e:s.data.toList[k]?=some (s[k]'h):=by
  rw[Array.getElem?_toList,Array.getElem?_eq_getElem (show k<s.data.size from h)]
  rfl
 rw[e];rfl
def sgTo(s:ByteArray)(cs:Array Value):Nat->Array Value
 |0=>cs
 |k+1=>(sgTo s cs k).setIfInBounds k (.int .i64 ((yY s).getD k 0))
theorem Oa(s:ByteArray)(cs:Array Value)(k:Nat):(sgTo s cs k).size=cs.size:=by
 induction k with
 |zero=>rfl
 |succ k ih=>unfold sgTo;rw[Array.size_setIfInBounds,ih]
theorem Z8(s:ByteArray)(cs:Array Value)(k i:Nat)(h:i<cs.size):(sgTo s cs k)[i]?=if i<k then some (.int .i64 ((yY s).getD i 0)) else cs[i]?:=by
 induction k with
 |zero=>simp[sgTo]
 |succ k ih=>
  unfold sgTo;rw[JB,Oa];by_cases e:k=i
  ·subst e
   rw[ay rfl,ay h,ay (by omega)]
  ·rw[ak e,ih]
   by_cases c:i<k
   ·rw[ay c,ay (by omega)]
   ·rw[ak c,ak (by omega)]
theorem an3(s:ByteArray)(cs:Array Value)(h:cs.size=s.size):sgTo s cs s.size=((yY s).map (Value.int .i64)).toArray:=by
 apply Array.ext_getElem?
 intro i;rcases cE i s.size with c|c
 ·rw[Z8 s cs s.size i (by omega),ay c,nP,dV,N8 s i c,oa,N8 s i c]
  rfl
 ·rw[Array.getElem?_eq_none (by rw[Oa];omega),Array.getElem?_eq_none (by simp[SC];omega)]
theorem Z9(s:ByteArray)(w:World)(hs:s.size<=1000000000) :
  Calls prog 41 #[.string s] w fun e w'=>e=.returned (.slice (some ⟨w.heap.size,0,none⟩) s.size s.size)/\aj w' w.heap.size 3 ((yY s).map (Value.int .i64)).toArray/\w.grownBy w' none:=by
 obtain⟨i0,hi,cP,cQ,cZ⟩:=info_parts Tryz.oO;go_enter func41,ntmps41;go_wp2_with(at_make;refine qg _ rfl _ _ 33 rfl w.heap.size 3 i0 (.int .i64 0) 1 underlying33 hi cP cQ _ _ _ _ s.size rfl rfl rfl rfl ?c1 ?c2 ?c3 ?_)
 case c1=>rw[cZ];omega
 case c2=>unfold maxLen;omega
 case c3=>exact bj _
 intro w1 cB aH;have HB:=ae (xl cB);have dN:=ae aH;have oG:Hid (∀i,i<s.size->(List.replicate s.size (Value.int .i64 0)).toArray[i]?=some (.int .i64 0)):=fun i hi=>by simp[hi]
 have iU:(List.replicate s.size (Value.int .i64 0)).toArray.size=s.size:=by simp
 generalize (List.replicate s.size (Value.int .i64 0)).toArray=cs at *;have Ev:=ae iU;clear cB hi cP cQ cZ aH iU;go_wp2;go_loopw[4] (fun i wr=>∃k:Nat,k<=s.size/\i=.int .i64 k/\Hid (aj wr w.heap.size 3 (sgTo s cs k))/\Hid (w.grownBy wr none)) (fun i _=>s.size-(intOf i).toNat)
 case atStart=>exact⟨0,bK _,rfl,HB.out,dN.out⟩
 case round=>
  clear HB dN;obtain⟨k,hk,rfl,eK,bH⟩:=hrel;by_cases aJ:k<s.size
  ·have d0:wr.cell? ⟨w.heap.size,k,none⟩=some (.int .i64 0):=by rw[eK.out.cell k,Z8 _ _ _ _ (by rw[Ev.out];exact aJ),ak (by omega)];exact oG.out k aJ
   have f0:=eK.out.free k;have dh:=eK.out.lt;have Hg:=ae (N8 s k aJ);have an4:(s[k]'aJ).toNat<256:=UInt8.toNat_lt _;obtain⟨x,Hx⟩:∃x:Nat,Hid ((s[k]'aJ).toNat=x):=⟨_,rfl⟩;have hx:(s[k]'aJ).toNat=x:=Hx.out;rw[hx] at an4;rw[Hx.out] at Hg;have HGD:Hid ((yY s).getD k 0=Eu x):=by unfold Hid;rw[oa,Hg.out];rfl
   by_cases abf:127<x
   ·have HV:=ae (show Eu x=(x:Int)-256 by unfold Eu;rw[ay abf])
    have B1:=eK.out.set k (.int .i64 x);have e1:(wr.setCell ⟨w.heap.size,k,none⟩ (.int .i64 x)).cell? ⟨w.heap.size,k,none⟩=some (.int .i64 x):=by
     rw[B1.cell k,JB,ay rfl,ay (by rw[Oa,Ev.out];exact aJ)]
    have iD:=ae (B1.set k (.int .i64 ((x:Int)-256)));have dU:=ae (dF (dF bH.out (bD wr w.heap.size k (.int .i64 x)) (bj _)) (bD _ w.heap.size k (.int .i64 ((x:Int)-256))) (bj _));have SD:Hid (aj ((wr.setCell ⟨w.heap.size,k,none⟩ (.int .i64 x)).setCell ⟨w.heap.size,k,none⟩ (.int .i64 ((x:Int)-256))) w.heap.size 3 (sgTo s cs (k+1))):=by
     have e:=iD.out;rw[Array.setIfInBounds_setIfInBounds] at e;unfold sgTo;rw[HGD.out,HV.out];exact e
    clear B1 eK bH iD;go_wp2;go_roundw
    case rel=>exact⟨k+1,by omega,by go_num,SD.out,dU.out⟩
    case measure=>simp[intOf];omega
   ·have HV:=ae (show Eu x=(x:Int) by unfold Eu;rw[ak abf])
    have B1:=eK.out.set k (.int .i64 x);have e1:(wr.setCell ⟨w.heap.size,k,none⟩ (.int .i64 x)).cell? ⟨w.heap.size,k,none⟩=some (.int .i64 x):=by
     rw[B1.cell k,JB,ay rfl,ay (by rw[Oa,Ev.out];exact aJ)]
    have dU:=ae (dF bH.out (bD wr w.heap.size k (.int .i64 x)) (bj _));have SD:Hid (aj (wr.setCell ⟨w.heap.size,k,none⟩ (.int .i64 x)) w.heap.size 3 (sgTo s cs (k+1))):=by
     unfold sgTo;rw[HGD.out,HV.out];exact B1
    clear B1 eK bH;go_wp2;go_roundw
    case rel=>exact⟨k+1,by omega,by go_num,SD.out,dU.out⟩
    case measure=>simp[intOf];omega
  ·obtain rfl:k=s.size:=by omega
   have HF:=ae eK.out;rw[an3 s cs Ev.out] at HF;clear eK;go_wp2;go_ret;exact⟨rfl,HF.out,bH.out⟩
def Rw(w:World)(r p g:Nat)(cells:List Int):Prop:=
 aj w r 134 #[.pointer (some ⟨p,0,none⟩),.slice (some ⟨g,0,none⟩) cells.length cells.length]/\aj w g 3 (cells.map (Value.int .i64)).toArray/\cells.length<=1000000
theorem Rw.Z{w w':World}{r p g:Nat}{cells:List Int}(h:Rw w r p g cells)(hg:w.grownBy w' none):Rw w' r p g cells:=⟨h.1.kept hg (by simp),h.2.1.kept hg (by simp),h.2.2⟩
theorem Rw.row{w:World}{r p g:Nat}{cells:List Int}(h:Rw w r p g cells){b:H.Bf}(h0:0<=b.a)(h1:0<=b.c)(he:b.e<=cells.length)(cp:Nat):kH w (.slice (some ⟨g,b.a.toNat,none⟩) b.c.toNat cp) (H.part cells b):=by
 have hl:=H.XZ h0 h1 he;refine⟨some ⟨g,b.a.toNat,none⟩,cp,by rw[hl],fun i x hx=>⟨g,b.a.toNat,rfl,h.2.1.lt,?_⟩⟩;rw[h.2.1.cell];rw[H.Nc] at hx
 split at hx
 ·rw[nP,dV,hx];rfl
 ·exact aN hx (by simp)
theorem abg(r p g:Nat)(md:M.Md)(cells:List Int)(b:Nat)(x:H.Bf)(w:World)(hP:Pl w p md)(hR:Rw w r p g cells)(hx:(pB md)[b]?=some x)(x0:0<=x.a)(x1:1<=x.c)(xe:x.a+x.c<=cells.length) :
  Calls prog 121 #[.pointer (some ⟨r,0,none⟩),.int .i64 b] w fun e w'=>e=.returned (.slice (some ⟨g,x.a.toNat,none⟩) x.c.toNat (cells.length-x.a.toNat))/\w.grownBy w' none:=by
 obtain⟨m,an,cn,ab,cb,-,-,hB,-,-,hF,-,h1⟩:=hP;have ok:=AV h1;have dh:=M.bP hx;have q3:w.cell? ⟨p,3,none⟩=some (.slice ab (pB md).length cb):=hB.cell 3;obtain⟨g',rfl,-,d0,d1⟩:=mT.get hF b x hx;have r0:w.cell? ⟨r,0,none⟩=some (.pointer (some ⟨p,0,none⟩)):=hR.1.cell 0;have r1:w.cell? ⟨r,1,none⟩=some (.slice (some ⟨g,0,none⟩) cells.length cells.length):=hR.1.cell 1;have gJ:=hR.1.lt;have kz:=hR.2.2;have iq:=ok.2.2.1;obtain⟨xa,xc⟩:=x;obtain⟨A,rfl⟩:=fT x0;obtain⟨Cc,rfl⟩:=fT (show 0<=xc by have:(1:Int)<=xc:=x1;omega);simp only[eC] at *;have xe':A+Cc<=cells.length:=by omega
 have rj:=ae (aQ w (.cells #[.int .i64 A,.int .i64 Cc] 125) none);clear hB h1 hF hx ok hR xe;go_enter func121,ntmps121;go_wp2;go_quiet(fail);rw[Nat.add_sub_cancel_left];have iy:=ae (aC rj.out (bE _ nq none));clear rj;go_wp2;go_ret;exact⟨rfl,iy.out⟩
theorem Rw.pJ{w:World}{r p g:Nat}{cells:List Int}(h:Rw w r p g cells)(ey:r≠g)(q:Nat)(l:List Int)(hl:q+l.length<=cells.length) :
  Rw (w.setRow g ((cells.map (Value.int .i64)).take q++(l.map (Value.int .i64)++(cells.map (Value.int .i64)).drop (q+l.length))).toArray) r p g (H.pJ cells q l):=by
 have iX:=H.Rz hl;refine⟨?_,?_,by rw[iX];exact h.2.2⟩
 ·rw[iX];exact h.1.kept (vB _ _ _) (by simpa using ey)
 ·have e:=RF h.2.1 ((cells.map (Value.int .i64)).take q++(l.map (Value.int .i64)++(cells.map (Value.int .i64)).drop (q+l.length))).toArray
  have e2:((cells.map (Value.int .i64)).take q++(l.map (Value.int .i64)++(cells.map (Value.int .i64)).drop (q+l.length)))=(H.pJ cells q l).map (Value.int .i64):=by
   unfold H.pJ;simp[List.map_take,List.map_drop]
  rw[e2] at e ⊢;exact e
theorem abh(r p g:Nat)(md:M.Md)(cells l:List Int)(b:Nat)(x:H.Bf)(a:Option Addr)(n c:Nat)(w:World)(hP:Pl w p md)(hR:Rw w r p g cells)(hx:(pB md)[b]?=some x)(x0:0<=x.a)(x1:1<=x.c)(xe:x.a+x.c<=cells.length)(hl:(l.length:Int)=x.c)(hI:Sl w (.slice a n c) l) :
  Calls prog 85 #[.pointer (some ⟨r,0,none⟩),.int .i64 b,.slice a n c] w fun e w'=>e=.returned (.tuple #[])/\Rw w' r p g (H.pJ cells x.a.toNat l)/\w.grownBy w' (some g):=by
 obtain rfl:=hI.len;obtain⟨j0,hj,vZ,qq,wg⟩:=info_parts Tryz.oO;have ey:r≠g:=ND hR.1 hR.2.1 (by decide);have HC:=ae (abg r p g md cells b x w hP hR hx x0 x1 xe);have HR:=ae hR;have HI:=ae hI;have hw:x.a.toNat+l.length<=cells.length:=by omega
 clear hP hR hx hI;go_enter func85,ntmps85;go_wp2_with fail;refine HC.out.mono ?_;rintro e w1⟨rfl,aH⟩;have FV:=ae (HR.out.Z aH);have kS:=ae (HI.out.Z aH);have dN:=ae (pr (row:=some g) aH);obtain⟨ga,rfl,-⟩:=kS.out.get 0 _ (aS (show 0<l.length by omega));have SE:Hid (∀(j:Nat) v,(l.map (Value.int .i64))[j]?=some v->w1.cell? (ga.add j)=some v):=fun j v hv=>by
  rw[dV] at hv;obtain⟨y,hy,rfl⟩:=Option.map_eq_some_iff.1 hv;obtain⟨ga',e,d⟩:=kS.out.get j y hy;injection e with e;rw[e];exact d
 have Hw:=ae (FV.out.pJ ey x.a.toNat l hw);have SF:=ae (aC dN.out (vB w1 g ((cells.map (Value.int .i64)).take x.a.toNat++(l.map (Value.int .i64)++(cells.map (Value.int .i64)).drop (x.a.toNat+l.length))).toArray));have NW:x.c.toNat=l.length:=by omega
 rw[NW];clear aH HC HR HI kS NW;go_wp2_with(refine wpList_copy_own rfl _ _ 33 33 rfl 3 underlying33 (by rw[hj];simp[qq]) g x.a.toNat l.length (cells.length-x.a.toNat) ga l.length c rfl rfl (cells.map (Value.int .i64)).toArray 3 FV.out.2.1 (l.map (Value.int .i64)) (by simp) SE.out (by simp;omega) (by intro v hv;obtain⟨q,-,rfl⟩:=List.mem_map.mp hv;rfl) ?_);go_end0;exact⟨rfl,Hw.out,SF.out⟩
def jg(md:M.Md)(cells:List Int)(n:Int):List Int:=H.uy (pM md) (pD md) (pB md) cells n
theorem SG(r p g:Nat)(md:M.Md)(cells:List Int)(n:Int)(w0 w:World)(Ob:Pl w0 p md)(Fp:Rw w0 r p g cells)(xm:w0.grownBy w none)(hc:(cells.length:Int)=H.gU (pB md)) :
  Calls prog 86 #[.pointer (some ⟨r,0,none⟩),.int .i64 n] w fun e w'=>(∃a c,e=.returned (.slice a (jg md cells n).length c)/\kH w0 (.slice a (jg md cells n).length c) (jg md cells n))/\w.grownBy w' none:=by
 have hP:=Ob.Z xm;have hR:=Fp.Z xm;have HM:Hid (∃m an cn ab cb,aj w0 p 104 #[.pointer (some ⟨m,0,none⟩),.int .i64 (H.fO (pM md)),.slice an (pD md).aW.length cn,.slice ab (pB md).length cb]/\cN w0 m (pM md)):=by
  obtain⟨m,an,cn,ab,cb,-,-,hB,hM,-⟩:=Ob;exact⟨m,an,cn,ab,cb,hB,hM⟩
 have HR:=ae Fp;have rV:=ae xm;have SH:=hP;obtain⟨_,_,_,_,_,-,-,-,-,-,-,-,h1⟩:=SH;obtain⟨m,an,cn,ab,cb,Ew,IA⟩:=HM.out;have hB:=Ew.kept xm (by simp);obtain⟨C,S⟩:=FT h1;have A:=H.FI S;have iq:=S.nt;have r0:w.cell? ⟨r,0,none⟩=some (.pointer (some ⟨p,0,none⟩)):=hR.1.cell 0;have q0:w.cell? ⟨p,0,none⟩=some (.pointer (some ⟨m,0,none⟩)):=hB.cell 0;have HM0:=ae IA;have HC:=ae (N5 p md n w hP);have iE:je md n<0\/0<=je md n:=by omega
 rcases iE with hb|hb
 ·have He:Hid (jg md cells n=(M.aq (pM md) n).data):=by
   unfold Hid jg H.uy;rw[ak];rintro ⟨a1,a2,a3⟩;unfold je at hb;rw[ak (by omega)] at hb;omega
  clear hP hR hB Ew IA HM h1 S A hc Ob Fp xm;generalize je md n=bi at *;go_enter func86,ntmps86;go_wp2_with fail;refine HC.out.mono ?_;rintro e w1⟨rfl,rfl⟩;clear HC;go_wp2_with fail;refine(Cp m (pM md) n w0 w1 HM0.out rV.out (by omega)).mono ?_;rintro e w2⟨t,ht,⟨ao,c,rfl,hI⟩,aM⟩;have HG:=ae (aC aM (aQ w2 (.cells #[.int .i64 t.af,.int .i64 t.h,.int .i64 t.w,.int .i64 t.c,.int .i64 t.zero,.slice ao t.data.length c] 158) none));have SK:=ae hI.row;rw[ht.out] at He;clear hI aM;go_wp2;go_ret;exact⟨⟨ao,c,by rw[He.out];rfl,by rw[He.out];exact SK.out⟩,HG.out⟩
 ·obtain⟨b,JR⟩:=fT hb
  have hn:0<=n/\n<(pD md).aW.length/\(pD md).aW.getD n.toNat 0=(b:Int):=by
   have e:=JR;unfold je at e;by_cases c:n<0\/((pD md).aW.length:Int)<=n
   ·rw[ay c] at e;omega
   ·rw[ak c] at e;exact⟨by omega,by omega,e⟩
  have e4:(pD md).aW.length=(pM md).au.length:=A.P.ln;have dh:b<(pD md).lv.length:=A.P.lt (n:=n.toNat) (by omega) hn.2.2;have FW:b<(pB md).length:=by rw[show(pB md).length=(pD md).lv.length from A.L.len];exact dh
  obtain⟨x,hx⟩:∃x,(pB md)[b]?=some x:=⟨_,aS FW⟩;obtain⟨f1,f2,f3,f4⟩:=A.gI dh;have yZ:0<=x.a:=by rw[<-getD_some (d:=H.aV) hx];exact f1
  have AY:1<=x.c:=by rw[<-getD_some (d:=H.aV) hx];exact f2
  have y9:x.e<=cells.length:=by rw[hc,<-getD_some (d:=H.aV) hx];exact f4
  have He:Hid (jg md cells n=H.part cells x):=by
   unfold Hid jg H.uy;rw[ay ⟨hn.1,hn.2.1,by rw[hn.2.2];omega⟩,hn.2.2,eC,getD_some hx]
  have tF:=H.XZ (cells:=cells) (b:=x) yZ (by omega) y9;have jd:=ae (abg r p g md cells b x w hP hR hx yZ AY y9);have Oc:=ae tF;have f1h:=ae yZ;have f2h:=ae AY;have f4h:=ae y9;rw[JR] at HC;clear hP hR hB Ew IA HM h1 S A hc JR hn hx f1 f2 f3 f4 yZ AY y9 tF q0 hb Ob Fp xm;go_enter func86,ntmps86;go_wp2_with fail;refine HC.out.mono ?_;rintro e w1⟨rfl,rfl⟩;clear HC;go_wp2_with fail;refine jd.out.mono ?_;rintro e w2⟨rfl,aM⟩;have HG:=ae aM;have SK:=ae (HR.out.row f1h.out (by have:=f2h.out;omega) f4h.out (cells.length-x.a.toNat));clear aM jd;go_wp2;go_ret;exact⟨⟨some ⟨g,x.a.toNat,none⟩,cells.length-x.a.toNat,by rw[He.out,Oc.out];rfl,by rw[He.out,Oc.out];exact SK.out⟩,HG.out⟩
theorem Tryz.Ey:(prog.info? 33).map (fun i=>(i.zero,i.size,i.bytes))=some (some (.slice none 0 0),1,24):=by kernel_rfl
theorem aZ.apart{w w':World}{B G:Nat}{T:TypeId}{v:Value}{l:List Int}{cs:Array Value}(h:aZ w B v l)(hB:aj w G T cs)(hT:T≠3)(hg:w.grownBy w' (some G)):aZ w' B v l:=by
 refine World.ownsRow.kept h hg ?_
 cases hv:v.ownBlock with
 |none=>exact .inl rfl
 |some g=>
  refine .inr ?_;rintro e;injection e with e;subst e;rcases h.2 with⟨h1,-⟩|⟨g',cap,dY,h1,-,hh,-⟩
  ·rw[h1] at hv;exact aN hv (by simp[Value.ownBlock])
  ·rw[h1] at hv
   simp only[Value.ownBlock] at hv;injection hv with hv;subst hv;unfold aj at hB;rw[hh] at hB;injection hB with hB;injection hB with _ hB _;exact hT hB.symm
theorem abi{w:World}{base g n:Nat}(h:w.ownsRow base 33 1 (.slice (some ⟨g,0,none⟩) n n) n (madeCells #[Value.slice none 0 0] n).toList):aj w g 33 (List.replicate n (Value.slice none 0 0)).toArray:=by
 rcases h.2 with⟨h',_⟩|⟨g',LV,dY,h',_,hg,_,_,hz,ht⟩
 ·simp at h'
 ·simp only[Value.slice.injEq,kj,oP,and_true,true_and] at h'
  obtain⟨rfl,rfl⟩:=h';unfold aj;rw[hg];have e:dY.toList=List.replicate n (Value.slice none 0 0):=by
   rw[BF (by simp[hz])] at ht;rw[ht];exact toList_madeCells_one _ _
  rw[<-e]
def cT(g:Nat)(l:List Int):Value:=.slice (some ⟨g,0,none⟩) l.length l.length
def xQ(gs:List Nat)(ls:List (List Int))(n:Nat):List Value:=List.zipWith cT gs ls++List.replicate n zs
theorem an9{gs:List Nat}{ls:List (List Int)}{n:Nat}(h:gs.length=ls.length)(hn:0<n):(xQ gs ls n)[gs.length]?=some zs:=by
 unfold xQ;rw[og (by simp[h])];simp[h,hn]
theorem aoa{gs:List Nat}{ls:List (List Int)}{n g:Nat}{l:List Int}(h:gs.length=ls.length):(xQ gs ls (n+1)).set gs.length (cT g l)=xQ (gs++[g]) (ls++[l]) n:=by
 unfold xQ;have hl:(List.zipWith cT gs ls).length=gs.length:=by simp[h]
 rw[List.set_append_right _ _ (by omega),hl,Nat.sub_self,List.replicate_succ,List.set_cons_zero,SL h];simp
structure Od(w:World)(B G:Nat)(gs:List Nat)(ls:List (List Int)):Prop where
 len:gs.length=ls.length
 out:aj w G 33 (List.zipWith cT gs ls).toArray
 base:B<=G
 AZ:gs.Pairwise (· < ·)
 aT:∀g∈gs,G<g
 gy:∀(i:Nat) g l,gs[i]?=some g->ls[i]?=some l->aj w g 3 (l.map (Value.int .i64)).toArray
theorem aob(r p g:Nat)(md:M.Md)(cells:List Int)(w:World)(hP:Pl w p md)(hR:Rw w r p g cells)(hc:(cells.length:Int)=H.gU (pB md))(me:∀n∈(pM md).aK,1<=(jg md cells n).length/\(jg md cells n).length<=512) :
  Calls prog 89 #[.pointer (some ⟨r,0,none⟩)] w fun e w'=>(∃G gs,e=.returned (.slice (some ⟨G,0,none⟩) (pM md).aK.length (pM md).aK.length)/\Od w' w.heap.size G gs ((pM md).aK.map (jg md cells)))/\w.grownBy w' none:=by
 obtain⟨i0,hi,cP,cQ,cZ⟩:=info_parts Tryz.Ey;obtain⟨j0,hj,vZ,qq,wg⟩:=info_parts Tryz.oO;have HP:=ae hP;have HR:=ae hR;obtain⟨m,an,cn,ab,cb,-,-,hB,hM,-,-,-,h1⟩:=hP;obtain⟨C,S⟩:=FT h1;have hnu:=S.nu;have r0:w.cell? ⟨r,0,none⟩=some (.pointer (some ⟨p,0,none⟩)):=hR.1.cell 0;have q0:w.cell? ⟨p,0,none⟩=some (.pointer (some ⟨m,0,none⟩)):=hB.cell 0;obtain⟨a1,c1,a2,c2,a3,c3,re,-,-,hU⟩:=hM;have m2:w.cell? ⟨m,2,none⟩=some (.slice a3 (pM md).aK.length c3):=re.cell 2;have HU:=ae hU;have FX:=ae me;have Hc:=ae hc;have gJ:=hR.1.lt;have tF:=hB.lt;have qk:=re.lt;clear hB re hU S h1 me hc hR;generalize hN:(pM md).aK=us at *;have HN:=ae hN;clear hN;go_enter func89,ntmps89;go_wp2_with(at_make;refine qg _ rfl _ _ 25 rfl w.heap.size 33 i0 (.slice none 0 0) 1 underlying25 hi cP cQ _ _ _ _ us.length rfl rfl rfl rfl ?c1 ?c2 ?c3 ?_)
 case c1=>rw[cZ];omega
 case c2=>unfold maxLen;omega
 case c3=>exact bj _
 intro w2 cB aM;have ff:=abi cB;have r0':=aG aM r0;have AR:=aG aM q0;have m2':=aG aM m2;clear cB r0 q0 m2;go_wp2;clear r0' AR m2';go_loopw[30] (fun i wr=>∃(k:Nat) (gs:List Nat),k<=us.length/\i=.int .i64 k/\gs.length=k/\aj wr w.heap.size 33 (xQ gs ((us.take k).map (jg md cells)) (us.length-k)).toArray/\Hid (gs.Pairwise (· < ·))/\Hid (∀g'∈gs,w.heap.size<g'/\g' < wr.heap.size)/\Hid (∀(j:Nat) g' l,gs[j]?=some g'->((us.take k).map (jg md cells))[j]?=some l->aj wr g' 3 (l.map (Value.int .i64)).toArray)/\w.grownBy wr none) (fun i _=>us.length-(intOf i).toNat)
 case atStart=>exact⟨0,[],bK _,rfl,rfl,by simpa[xQ,zs] using ff,List.Pairwise.nil,fun _ h=>aN h (by simp),fun _ _ _ h=>aN h (by simp),aM⟩
 case round=>
  obtain⟨k,gs,hk,rfl,gQ,bV,JT,A6,xu,aF⟩:=hrel;have bH:=ae aF;have Ft:=aF.size;have Ml:=bV.lt;have hlm:((us.take k).map (jg md cells)).length=k:=by simp;omega
  have uG:=ae hlm;have jH:=ae gQ;clear hlm;by_cases aJ:k<us.length
  ·obtain⟨x,hx⟩:∃x,us[k]?=some x:=⟨_,aS aJ⟩
   obtain⟨gu,rfl,-,-,d0⟩:=(HU.out.Z aF).get k x hx;have HC:=ae (SG r p g md cells x w wr HP.out HR.out aF Hc.out);have uH:=FX.out x (bU hx);have vX:Hid ((us.take (k+1)).map (jg md cells)=(us.take k).map (jg md cells)++[jg md cells x]):=by unfold Hid;rw[H.kd hx];simp
   have eK:=ae bV;clear hx bV aF gQ;obtain⟨l,SM⟩:∃l,Hid (jg md cells x=l):=⟨_,rfl⟩;rw[SM.out] at HC uH vX;go_wp2_with fail;refine HC.out.mono ?_;rintro e w3⟨⟨al,cl,rfl,hRl⟩,aU⟩;have HRl:=ae hRl;have fR:=ae (aC bH.out aU);have fU:=ae (eK.out.kept aU (by simp));have DG:=aU.size;have Ez:=ae aU;clear hRl aU HC d0;go_wp2_with(at_make;refine qg _ rfl _ _ 33 rfl w3.heap.size 3 j0 (.int .i64 0) 1 underlying33 hj vZ qq _ _ _ _ l.length rfl rfl rfl rfl ?c1 ?c2 ?c3 ?_)
   case c1=>rw[wg];omega
   case c2=>unfold maxLen;omega
   case c3=>exact bj _
   intro w4 abo bm;have kC:=xl abo;clear abo;have Oe:=fU.out.kept bm (by simp);have cG:w4.cell? ⟨w.heap.size,k,none⟩=some zs:=by
    rw[Oe.cell k];have e:=an9 (gs:=gs) (ls:=(us.take k).map (jg md cells)) (n:=us.length-k) (by rw[uG.out,jH.out]) (by omega);rw[jH.out] at e
    simpa using e
   have fG:=Oe.free k;have CI:w4.grownBy (w4.setCell ⟨w.heap.size,k,none⟩ (.slice (some ⟨w3.heap.size,0,none⟩) l.length l.length)) (some w.heap.size):=bD _ _ _ _;have oE:=ae (kC.kept CI (by simp;omega));have abp:Hid (aj (w4.setCell ⟨w.heap.size,k,none⟩ (.slice (some ⟨w3.heap.size,0,none⟩) l.length l.length)) w.heap.size 33 (xQ (gs++[w3.heap.size]) ((us.take (k+1)).map (jg md cells)) (us.length-(k+1))).toArray):=by
    have e:=Oe.set k (cT w3.heap.size l);have e2:=aoa (gs:=gs) (ls:=(us.take k).map (jg md cells)) (n:=us.length-(k+1)) (g:=w3.heap.size) (l:=l) (by rw[uG.out,jH.out]);rw[show us.length-(k+1)+1=us.length-k by omega,jH.out,<-vX.out] at e2;have e3:(xQ gs ((us.take k).map (jg md cells)) (us.length-k)).toArray.setIfInBounds k (cT w3.heap.size l)=((xQ gs ((us.take k).map (jg md cells)) (us.length-k)).set k (cT w3.heap.size l)).toArray:=by simp
    rw[e3,e2] at e;exact e
   have cK:w.grownBy (w4.setCell ⟨w.heap.size,k,none⟩ (.slice (some ⟨w3.heap.size,0,none⟩) l.length l.length)) none:=dF (aC fR.out bm) CI (bj _);have hk5:wr.grownBy (w4.setCell ⟨w.heap.size,k,none⟩ (.slice (some ⟨w3.heap.size,0,none⟩) l.length l.length)) (some w.heap.size):=aC (pr (aC Ez.out bm)) CI;have EA:=ae (HRl.out.Z cK);have iC:=ae cK;have HK5:=ae hk5;have Ec:=kC.lt;clear CI Oe kC cK hk5 HRl fU bm;obtain⟨a',c',e',JU⟩:=EA.out;injection e' with e1 _ _;subst e1;obtain⟨x0,mH⟩:∃x0,l[0]?=some x0:=⟨_,aS (by omega)⟩;obtain⟨ga,off,rfl,-,-⟩:=JU 0 x0 mH;have SE:Hid (∀(j:Nat) v,(l.map (Value.int .i64))[j]?=some v->(w4.setCell ⟨w.heap.size,k,none⟩ (.slice (some ⟨w3.heap.size,0,none⟩) l.length l.length)).cell? ((⟨ga,off,none⟩:Addr).add j)=some v):=fun j v hv=>by
    rw[dV] at hv;obtain⟨y,hy,rfl⟩:=Option.map_eq_some_iff.1 hv;obtain⟨g2,ax0,e2,-,JV⟩:=JU j y hy;simp only[kj,oP,and_true] at e2;obtain⟨rfl,rfl⟩:=e2;have ea:(⟨ga,off,none⟩:Addr).add j=⟨ga,off+j,none⟩:=by unfold Addr.add;split<;>simp_all
    rw[ea];exact JV
   have aod:Hid ((((List.replicate l.length (Value.int .i64 0)).toArray).toList.take 0++(l.map (Value.int .i64)++((List.replicate l.length (Value.int .i64 0)).toArray).toList.drop (0+(l.map (Value.int .i64)).length))).toArray=(l.map (Value.int .i64)).toArray):=by
    unfold Hid;simp
   have JW:=vB (w4.setCell ⟨w.heap.size,k,none⟩ (.slice (some ⟨w3.heap.size,0,none⟩) l.length l.length)) w3.heap.size (l.map (Value.int .i64)).toArray;have NH:=ae (RF oE.out (l.map (Value.int .i64)).toArray);have AN:=ae (abp.out.kept JW (by simp;omega));have kI:=ae (dF iC.out JW (by omega));have aoe:Hid (∀g'∈gs++[w3.heap.size],w.heap.size<g'/\g' < ((w4.setCell ⟨w.heap.size,k,none⟩ (.slice (some ⟨w3.heap.size,0,none⟩) l.length l.length)).setRow w3.heap.size (l.map (Value.int .i64)).toArray).heap.size):=fun g' fS=>by
    have e:=JW.size;simp at e;rcases List.mem_append.mp fS with h' |h'
    ·have:=A6.out g' h'
     have:=HK5.out.size;simp at this ⊢;omega
    ·rw[List.mem_singleton.mp h'];simp;omega
   have aof:Hid ((gs++[w3.heap.size]).Pairwise (· < ·)):=List.pairwise_append.mpr ⟨JT.out,List.pairwise_singleton _ _,fun a ha b hb=>by
    rw[List.mem_singleton.mp hb];have:=A6.out a ha;omega⟩
   have aog:Hid (∀(j:Nat) g' l',(gs++[w3.heap.size])[j]?=some g'->((us.take (k+1)).map (jg md cells))[j]?=some l'->aj ((w4.setCell ⟨w.heap.size,k,none⟩ (.slice (some ⟨w3.heap.size,0,none⟩) l.length l.length)).setRow w3.heap.size (l.map (Value.int .i64)).toArray) g' 3 (l'.map (Value.int .i64)).toArray):=fun j g' l' fS fI=>by
    rw[vX.out] at fI;by_cases cj:j<k
    ·rw[qT (by rw[jH.out];exact cj)] at fS
     rw[qT (by rw[uG.out];exact cj)] at fI;have hb:=A6.out g' (bU fS);exact((xu.out j g' l' fS fI).kept HK5.out (by simp;omega)).kept JW (by simp;omega)
    ·rw[og (by rw[jH.out];omega),jH.out] at fS
     rw[og (by rw[uG.out];omega),uG.out] at fI;have ej:j-k=0:=by
      rcases Nat.eq_zero_or_pos (j-k) with h' |h'
      ·exact h'
      ·rw[db (by simp;omega)] at fS;exact aN fS (by simp)
     rw[ej] at fS fI;simp at fS fI;subst fS fI;exact NH.out
   clear JW JU mH abp NH;go_wp2_with(refine wpList_copy_own rfl _ _ 33 33 rfl 3 underlying33 (by rw[hj];simp[qq]) w3.heap.size 0 l.length l.length ⟨ga,off,none⟩ l.length cl rfl rfl (List.replicate l.length (Value.int .i64 0)).toArray 3 oE.out (l.map (Value.int .i64)) (by simp) SE.out (by simp) (by intro v hv;obtain⟨q,-,rfl⟩:=List.mem_map.mp hv;rfl) ?_;rw[aod.out]);go_roundw
   case rel=>exact⟨k+1,gs++[w3.heap.size],by omega,by go_num,by simp[jH.out],AN.out,aof.out,aoe.out,aog.out,kI.out⟩
   case measure=>simp[intOf];omega
  ·obtain rfl:k=us.length:=by omega
   have HF:Hid (Od wr w.heap.size w.heap.size gs (us.map (jg md cells))):=by
    rw[jm,Nat.sub_self] at bV;have e:=xu.out;rw[jm] at e;exact⟨by rw[gQ,jb],by simpa[xQ] using bV,bj _,JT.out,fun g' fS=>(A6.out g' fS).1,e⟩
   clear bV aF;go_wp2;go_ret;exact⟨⟨w.heap.size,gs,rfl,HF.out⟩,bH.out⟩
def wD(w:World)(base:Nat)(v:Value)(gs:List (Nat×Nat)):Prop:=
 w.ownsRow base 25 1 v gs.length (gs.map fun p=>Value.slice (some ⟨p.1,0,none⟩) p.2 p.2)/\∀p∈gs,p.2<=1000/\aj w p.1 33 (List.replicate p.2 zs).toArray
theorem wD.Z{w w':World}{base:Nat}{v:Value}{gs:List (Nat×Nat)}(h:wD w base v gs)(hg:w.grownBy w' none):wD w' base v gs:=
 ⟨eY h.1 hg,fun p hp=>⟨(h.2 p hp).1,(h.2 p hp).2.kept hg (by simp)⟩⟩
theorem SN(b base:Nat)(a:Option Addr)(n c:Nat)(gs:List (Nat×Nat))(w:World)(hc:w.cell? ⟨b,9,none⟩=some (.slice a n c))(hE:wD w base (.slice a n c) gs)(hl:gs.length<=1000000000) :
  Calls prog 37 #[.pointer (some ⟨b,0,none⟩)] w fun e w'=>e=.returned (.bool true)/\w'=w:=by
 have hn:n=gs.length:=by obtain⟨ao,c',e⟩:=gP hE.1;injection e with _ e _
 subst hn;have HE:=ae hE;clear hE;go_enter func37,ntmps37;go_wp2;go_loopw[3] (fun i wr=>∃k:Nat,k<=gs.length/\i=.int .i64 k/\wr=w) (fun i _=>gs.length-(intOf i).toNat)
 case atStart=>exact⟨0,bK _,rfl,rfl⟩
 case round=>
  obtain⟨k,hk,rfl,rfl⟩:=hrel;by_cases aJ:k<gs.length
  ·obtain⟨p,hp⟩:∃p,gs[k]?=some p:=⟨_,aS aJ⟩
   obtain⟨g,rfl,-,-,iU⟩:=nE HE.out.1 (by omega);have d1:wr.cell? ⟨g,k,none⟩=some (.slice (some ⟨p.1,0,none⟩) p.2 p.2):=by rw[iU k (by omega),dV,hp];rfl
   obtain⟨gj,hB⟩:=HE.out.2 p (bU hp);have HB:=ae hB;obtain⟨q,m⟩:=p;simp only at gj d1 HB;clear iU hp hB;obtain⟨wq,EB⟩:∃q,Hid (q=wr):=⟨_,rfl⟩;go_wp2;go_loopw[4] (fun i wp=>∃t:Nat,t<=m/\i=.int .i64 t/\wp=wq) (fun i _=>m-(intOf i).toNat)
   case atStart=>exact⟨0,bK _,rfl,EB.out.symm⟩
   case round=>
    obtain⟨t,ht,rfl,xR⟩:=hrel;rw[EB.out] at xR;subst xR;by_cases lk:t<m
    ·have d2:wr.cell? ⟨q,t,none⟩=some (.slice none 0 0):=by rw[HB.out.cell t];simp[lk,zs]
     go_wp2;go_roundw
     case rel=>exact⟨t+1,by omega,by go_num,EB.out.symm⟩
     case measure=>simp[intOf];omega
    ·obtain rfl:t=m:=by omega
     go_wp2;go_roundw
     case rel=>exact⟨k+1,by omega,by go_num,trivial⟩
     case measure=>simp[intOf];omega
  ·obtain rfl:k=gs.length:=by omega
   go_wp2;go_ret;exact⟨rfl,rfl⟩
end Go.Proofs.YtcnhfffgbamonaaGreat
