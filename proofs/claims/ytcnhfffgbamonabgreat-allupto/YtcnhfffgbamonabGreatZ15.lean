import Derived.StillTailTactics
import Derived.Deep.RegionLaw
import Derived.Deep.AppendLies
import Derived.Test.YtcnhfffgbamonabGreatZ14
set_option maxRecDepth 100000
set_option maxHeartbeats 6400000
namespace Go.Proofs.YtcnhfffgbamonabGreat
open Go.Proofs.Tryz
open Go.RowKit
def pG(w:World)(B d:Nat)(I:Int)(x:H.Dr):Prop:=
 ∃an cn al cl,aj w d 78 #[.int .i64 I,.slice an x.aW.length cn,.slice al x.lv.length cl]/\aZ w B (.slice an x.aW.length cn) x.aW/\pC w B (.slice al x.lv.length cl) x.lv
theorem pG.Z{w w':World}{B d:Nat}{I:Int}{x:H.Dr}(h:pG w B d I x)(hg:w.grownBy w' none):pG w' B d I x:=by
 obtain⟨an,cn,al,cl,h1,h2,h3⟩:=h;exact⟨an,cn,al,cl,h1.kept hg (by simp),h2.Z hg,eW h3 hg⟩
theorem ak5(xs:List H.dE)(i:Nat)(x:H.dE)(time:Int)(h:xs[i]?=some x):(xs.flatMap BZ).set (i*3+1) (.int .i64 time)=(xs.set i ⟨x.f,time,x.c⟩).flatMap BZ:=
 vE BZ 3 (fun _=>rfl) xs i 1 x ⟨x.f,time,x.c⟩ (.int .i64 time) h (by decide) rfl
theorem XV{d:H.Dr}{n time:Int}(h:n<0\/(d.aW.length:Int)<=n):H.g6 time d n=d:=by unfold H.g6;rw[ay h]
theorem XW{d:H.Dr}{q:Nat}{time b:Int}(hn:d.aW[q]?=some b)(hb:b<0\/(d.lv.length:Int)<=b):H.g6 time d q=d:=by
 have:=M.bP hn;unfold H.g6 H.DJ;rw[ak (by omega),ey,getD_some hn,ak (by omega)]
theorem ak6{d:H.Dr}{q i:Nat}{time:Int}{x:H.dE}(hn:d.aW[q]?=some (i:Int))(hx:d.lv[i]?=some x):H.g6 time d q=⟨d.aW,d.lv.set i ⟨x.f,time,x.c⟩⟩:=by
 have:=M.bP hn;have:=M.bP hx;unfold H.g6 H.DJ;rw[ak (by omega),ey,getD_some hn,ay (by omega),ey,getD_some hx]
def Cg(B:Nat)(w w':World):Prop:=w'=w\/∃G cs,aj w G 114 cs/\B<=G/\w.grownBy w' (some G)
theorem Cg.XX{B B':Nat}{w w':World}{v:Value}{l:List Int}(h:Cg B w w')(hI:aZ w B' v l):aZ w' B' v l:=by
 rcases h with rfl|⟨G,cs,hB,-,hg⟩
 ·exact hI
 ·exact pE hI hB (by decide) hg
theorem Cg.gF{B g:Nat}{T:TypeId}{cs:Array Value}{w w':World}(h:Cg B w w')(hI:aj w g T cs)(hT:T≠114):aj w' g T cs:=by
 rcases h with rfl|⟨G,ym,hB,-,hg⟩
 ·exact hI
 ·refine hI.kept hg ?_
  intro e;injection e with e;subst e;unfold aj at hB hI;rw[hI] at hB;injection hB with hB;injection hB with _ hB _;exact hT hB
theorem Cg.gr{B:Nat}{a w w':World}{row:Option Nat}(h:Cg B w w')(hg:a.grownBy w row)(hB:a.heap.size<=B):a.grownBy w' row:=by
 rcases h with rfl|⟨G,ym,-,hb,fQ⟩
 ·exact hg
 ·exact dF hg fQ (by omega)
theorem XY(B d:Nat)(I:Int)(x:H.Dr)(n time:Int)(w:World)(h:pG w B d I x)(_hn1:x.aW.length<=1000)(_hn2:x.lv.length<=1000) :
  Calls prog 58 #[.pointer (some ⟨d,0,none⟩),.int .i64 n,.int .i64 time] w fun e w'=>e=.returned (.tuple #[])/\pG w' B d I (H.g6 time x n)/\Cg B w w':=by
 have HD:=ae h;obtain⟨an,cn,al,cl,hB,hN,hL⟩:=h;have q1:w.cell? ⟨d,1,none⟩=some (.slice an x.aW.length cn):=hB.cell 1;have q2:w.cell? ⟨d,2,none⟩=some (.slice al x.lv.length cl):=hB.cell 2;have HB:=ae hB;clear hB;by_cases h0:n<0
 ·have He:=ae (XV (d:=x) (time:=time) (.inl h0))
  go_enter func58,ntmps58;go_wp2;refine bodyPost_ret (v:=.tuple #[]) (by simp[results,Tryz.results58,go_sem]) rfl ?_;exact⟨rfl,by rw[He.out];exact HD.out,.inl rfl⟩
 ·by_cases h1:(x.aW.length:Int)<=n
  ·have He:=ae (XV (d:=x) (time:=time) (.inr h1))
   go_enter func58,ntmps58;go_wp2;refine bodyPost_ret (v:=.tuple #[]) (by simp[results,Tryz.results58,go_sem]) rfl ?_;exact⟨rfl,by rw[He.out];exact HD.out,.inl rfl⟩
  ·obtain⟨q,rfl⟩:=fR (show 0<=n by omega)
   have hq:q<x.aW.length:=by omega
   obtain⟨b,hb⟩:∃b,x.aW[q]?=some b:=⟨_,aT hq⟩;obtain⟨g1,rfl,-,-,d1⟩:=hN.get q b hb;have HN:=ae hN;by_cases h2:b<0
   ·have He:=ae (XW (time:=time) hb (.inl h2))
    clear hb hL hN;go_enter func58,ntmps58;go_wp2;go_end0;exact⟨rfl,by rw[He.out];exact HD.out,.inl rfl⟩
   ·by_cases h3:(x.lv.length:Int)<=b
    ·have He:=ae (XW (time:=time) hb (.inr h3))
     clear hb hL hN;go_enter func58,ntmps58;go_wp2;go_end0;exact⟨rfl,by rw[He.out];exact HD.out,.inl rfl⟩
    ·obtain⟨i,rfl⟩:=fR (show 0<=b by omega)
     have fC:i<x.lv.length:=by omega
     obtain⟨y,hy⟩:∃y,x.lv[i]?=some y:=⟨_,aT fC⟩;have He:=ae (ak6 (time:=time) hb hy);obtain⟨g2,dV,rfl,-,yC,fA,-⟩:=xp hL (by omega);obtain⟨wW,e2,-,-,d2,-⟩:=pC.get hL i y hy;simp only[j8,oI,and_true] at e2;subst e2;have f2:=fA.free (i*3+1);have HL:=ae (show pC (w.setCell ⟨g2,i*3+1,none⟩ (.int .i64 time)) B (.slice (some ⟨g2,0,none⟩) x.lv.length cl) (x.lv.set i ⟨y.f,time,y.c⟩) by
      have:=DW hL (i*3+1) (.int .i64 time);rw[ak5 _ _ _ _ hy] at this;unfold pC;rw[kG];exact this)
     have HG:Hid (Cg B w (w.setCell ⟨g2,i*3+1,none⟩ (.int .i64 time))):=.inr ⟨g2,dV,fA,yC,bD _ _ _ _⟩;have MV:=ae (HG.out.gF HB.out (by decide));have HN':=ae (HG.out.XX HN.out);clear hb hy hL hN fA;go_enter func58,ntmps58;go_wp2;go_end0;refine⟨rfl,?_,HG.out⟩;rw[He.out];exact⟨_,_,_,_,by simpa using MV.out,HN'.out,by simpa using HL.out⟩
theorem IN{p:Prop}(h:Hid p):p:=h
def jW(w:World)(B1 B2:Nat)(v:Value)(os:List M.Op):Prop:=
 ∃ps:List (M.Op×Value),ps.map (·.1)=os/\w.ownsRow B1 93 16 v os.length (ps.flatMap fun p=>(aO p.1 p.2).toList)/\∀p∈ps,gy w B2 p.2 p.1.bM
theorem jW.nil(w:World)(B1 B2:Nat):jW w B1 B2 (.slice none 0 0) []:=⟨[],rfl,kq _ _ _ _,by simp⟩
theorem jW.Z{w w':World}{B1 B2:Nat}{v:Value}{os:List M.Op}(h:jW w B1 B2 v os)(hg:w.grownBy w' none):jW w' B1 B2 v os:=by
 obtain⟨ps,h1,h2,h3⟩:=h;exact⟨ps,h1,eW h2 hg,fun p hp=>eW (h3 p hp) hg⟩
theorem jW.ag{w:World}{B1 B2:Nat}{v:Value}{os:List M.Op}(h:jW w B1 B2 v os)(hb:B2<=B1):je w B2 v os:=by
 obtain⟨ps,h1,h2,h3⟩:=h;exact⟨ps,h1,m9 h2 hb,h3⟩
theorem je.LZ{w:World}{B:Nat}{v:Value}{os:List M.Op}(h:je w B v os):jW w B B v os:=h
theorem jW.bT{w:World}{B1 B2:Nat}{v:Value}{os:List M.Op}(h:jW w B1 B2 v os):∃ao c,v=.slice ao os.length c:=by
 obtain⟨ps,h1,h2,h3⟩:=h;exact gY h2
theorem je.len{w:World}{B:Nat}{a:Option Addr}{n c:Nat}{os:List M.Op}(h:je w B (.slice a n c) os):n=os.length:=by
 obtain⟨Ar,c',e⟩:=h.LZ.bT;injection e
theorem jW.pk{w w2:World}{B1 B2:Nat}{v v':Value}{ps:List (M.Op×Value)}{os:List M.Op}{o:M.Op}{sv:Value}(h1:ps.map (·.1)=os)(h2:w.ownsRow B1 93 16 v os.length (ps.flatMap fun p=>(aO p.1 p.2).toList))(h3:∀p∈ps,gy w B2 p.2 p.1.bM)
  (hd:gy w B2 sv o.bM) (aM:w.grownBy w2 v.ownBlock)
  (cB:w2.ownsRow B1 93 16 v' (os.length+1) ((ps.flatMap fun p=>(aO p.1 p.2).toList)++(aO o sv).toList)):jW w2 B1 B2 v' (os++[o]):=by
 refine⟨ps++[(o,sv)],by simp[h1],by simpa using cB,?_⟩;intro p hp;rcases List.mem_append.1 hp with hp|hp
 ·exact nV (h3 p hp) h2 (by decide) aM
 ·simp at hp
  subst hp;exact nV hd h2 (by decide) aM
theorem cN.Rl{w:World}{m:Nat}{md:M.Md}{os:List M.Op}{ao:Option Addr}{c:Nat}(h:cN w m md)(hO:je w (m+1) (.slice ao os.length c) os):cN (w.setCell ⟨m,1,none⟩ (.slice ao os.length c)) m ⟨md.au,os,md.aJ⟩:=by
 obtain⟨a1,c1,a2,c2,a3,c3,hB,hT,-,hU⟩:=h;have hg:=bD w m 1 (.slice ao os.length c);exact⟨a1,c1,ao,c,a3,c3,by have:=hB.set 1 (.slice ao os.length c);simpa using this,hT.kept hg (by omega),hO.kept hg (by omega),pf hU hg (by omega)⟩
theorem uk{a w w':World}{B:Nat}(h:Below B a w)(k:Below B w w'):Below B a w':=h.trans k
theorem XZ(x:Int)(o:M.Op)(ao:Option Addr)(p c:Nat)(w:World) :
  Calls prog 136 #[.int .i64 x,.agg (aO o (.slice ao p c))] w fun e w'=>e=.returned (.int .i64 (R.cU x o.lo o.hi))/\w.grownBy w' none:=by
 have G0:=ae (aQ w (.cells (oo o (.slice ao p c)) 93) none);show Calls prog 136 #[.int .i64 x,.agg (oo o (.slice ao p c))] w _;by_cases h1:x<o.lo
 ·have He:=ae (show R.cU x o.lo o.hi=o.lo by unfold R.cU;rw[ay h1])
  go_enter func136,ntmps136;go_wp2;go_ret;exact⟨cE He.out.symm,G0.out⟩
 ·by_cases h2:o.hi<x
  ·have He:=ae (show R.cU x o.lo o.hi=o.hi by unfold R.cU;rw[ak h1,ay h2])
   go_enter func136,ntmps136;go_wp2;go_ret;exact⟨cE He.out.symm,G0.out⟩
  ·have He:=ae (show R.cU x o.lo o.hi=x by unfold R.cU;rw[ak h1,ak h2])
   go_enter func136,ntmps136;go_wp2;go_ret;exact⟨cE He.out.symm,G0.out⟩
theorem ir.apart{w w':World}{B G:Nat}{T:TypeId}{v:Value}{ts:List M.Tn}{cs:Array Value}(h:ir w B v ts)(hB:aj w G T cs)(hT:T≠106)(h3:T≠3)(hg:w.grownBy w' (some G)):ir w' B v ts:=by
 obtain⟨ps,q1,q2,q3⟩:=h;exact⟨ps,q1,pE q2 hB hT hg,fun p hp=>pE (q3 p hp) hB h3 hg⟩
theorem je.apart{w w':World}{B G:Nat}{T:TypeId}{v:Value}{os:List M.Op}{cs:Array Value}(h:je w B v os)(hB:aj w G T cs)(hT:T≠93)(h3:T≠221)(hg:w.grownBy w' (some G)):je w' B v os:=by
 obtain⟨ps,q1,q2,q3⟩:=h;exact⟨ps,q1,pE q2 hB hT hg,fun p hp=>pE (q3 p hp) hB h3 hg⟩
theorem jW.apart{w w':World}{B1 B2 G:Nat}{T:TypeId}{v:Value}{os:List M.Op}{cs:Array Value}(h:jW w B1 B2 v os)(hB:aj w G T cs)(hT:T≠93)(h3:T≠221)(hg:w.grownBy w' (some G)):jW w' B1 B2 v os:=by
 obtain⟨ps,q1,q2,q3⟩:=h;exact⟨ps,q1,pE q2 hB hT hg,fun p hp=>pE (q3 p hp) hB h3 hg⟩
theorem IP{w:World}{B:Nat}{E:TypeId}{size n:Nat}{v:Value}{xs:List Value}(h:w.ownsRow B E size v n xs):v.ownBlock=none\/∃g cs,v.ownBlock=some g/\B<=g/\aj w g E cs:=by
 rcases h.2 with⟨rfl,_⟩|⟨g,cap,dV,rfl,hb,hh,_⟩
 ·exact .inl rfl
 ·exact .inr ⟨g,dV,rfl,hb,hh⟩
theorem ir.grow{w w':World}{B B':Nat}{E:TypeId}{size n:Nat}{v u:Value}{xs:List Value}{ts:List M.Tn}(h:ir w B v ts)(ho:w.ownsRow B' E size u n xs)(hT:E≠106)(h3:E≠3)(hg:w.grownBy w' u.ownBlock):ir w' B v ts:=by
 rcases IP ho with e|⟨g,cs,e,-,hB⟩
 ·rw[e] at hg;exact h.Z hg
 ·rw[e] at hg;exact h.apart hB hT h3 hg
theorem ak8{w wr:World}{m:Nat}{a1 a2:Option Addr}{n1 c1 n2 c2:Nat}{ts:List M.Tn}{os:List M.Op}(hT:ir w (m+1) (.slice a1 n1 c1) ts)(hO:je w (m+1) (.slice a2 n2 c2) os)(hg:w.grownBy wr (Value.slice a1 n1 c1).ownBlock):je wr (m+1) (.slice a2 n2 c2) os:=by
 obtain⟨ps,h1,h2,h3⟩:=hT;rcases IP h2 with e|⟨g,cs,e,hb,qN⟩
 ·rw[e] at hg;exact hO.Z hg
 ·rw[e] at hg;exact hO.apart qN (by decide) (by decide) hg
theorem X0{w wr:World}{m:Nat}{md:M.Md}{a1 a2 a3:Option Addr}{c1 c2 c3:Nat}{ts:List M.Tn}(hB:aj w m 90 #[.slice a1 md.au.length c1,.slice a2 md.ag.length c2,.slice a3 md.aJ.length c3])(hT:ir w (m+1) (.slice a1 md.au.length c1) md.au)(hO:je w (m+1) (.slice a2 md.ag.length c2) md.ag)(hU:aZ w (m+1) (.slice a3 md.aJ.length c3) md.aJ)
  (hl:ts.length=md.au.length) (X1:ir wr (m+1) (.slice a1 md.au.length c1) ts) (hg:w.grownBy wr (Value.slice a1 md.au.length c1).ownBlock):cN wr m ⟨ts,md.ag,md.aJ⟩:=by
 obtain⟨ps,h1,h2,h3⟩:=hT;rcases IP h2 with e|⟨g,cs,e,hb,qN⟩
 ·rw[e] at hg
  refine⟨a1,c1,a2,c2,a3,c3,?_,?_,hO.Z hg,hU.Z hg⟩
  ·show aj wr m _ #[.slice a1 ts.length c1,_,_];rw[hl];exact hB.kept hg (by simp)
  ·show ir wr (m+1) (.slice a1 ts.length c1) ts;rw[hl];exact X1
 ·rw[e] at hg
  refine⟨a1,c1,a2,c2,a3,c3,?_,?_,hO.apart qN (by decide) (by decide) hg,pE hU qN (by decide) hg⟩
  ·show aj wr m _ #[.slice a1 ts.length c1,_,_];rw[hl];exact hB.kept hg (by simp;omega)
  ·show ir wr (m+1) (.slice a1 ts.length c1) ts;rw[hl];exact X1
theorem X2{w wr:World}{m:Nat}{a1:Option Addr}{n c1:Nat}{ts:List M.Tn}(hT:ir w (m+1) (.slice a1 n c1) ts)(hm:m<w.heap.size)(hg:w.grownBy wr (Value.slice a1 n c1).ownBlock):Below m w wr:=by
 obtain⟨ps,h1,h2,h3⟩:=hT;rcases IP h2 with e|⟨g,cs,e,hb,qN⟩
 ·rw[e] at hg;exact Ai hg (by omega)
 ·rw[e] at hg;exact Cf hg (by omega) (by omega)
theorem X3{w w':World}{G:Nat}(hg:w.grownBy w' (some G)){a:Addr}{v:Value}(h:w.cell? a=some v)(eF:a.block≠G):w'.cell? a=some v:=by
 rw[World.cell?_of_block (hg.block a.block (pY w _ h) (by intro e;injection e with e;exact eF e))];exact h
theorem aZ.ak9{w w':World}{B G:Nat}{T:TypeId}{v:Value}{l:List Int}{cs:Array Value}(h:aZ w B v l)(hB:aj w G T cs)(hT:T≠3)(hg:w.grownBy w' (some G)):aZ w' B v l:=pE h hB hT hg
theorem ala{m:M.Md}{k:Nat}{o:M.Op}(h:m.ag[k]?=some o)(hk:H.rG (H.fE m k).1 o=true){q:Nat}(hq:o.to=q){t:M.Tn}(ht:(H.fE m k).1.au[q]?=some t) :
  (H.fE m (k+1)).1.au=(H.fE m k).1.au.set q { t with af:=1,data:=O.iu (H.fE m k).1 o (M.aq (H.fE m k).1 o.a).data (M.aq (H.fE m k).1 o.b).data }/\(H.fE m (k+1)).2=(H.fE m k).2:=by
 rw[H.MT h];unfold H.nD;rw[ay hk];refine⟨?_,rfl⟩;unfold H.oR;have e:M.aq (H.fE m k).1 o.to=t:=by
  rw[hq];exact Lw ht
 rw[e,hq,ey]
theorem alb{m:M.Md}{k:Nat}{o:M.Op}(h:m.ag[k]?=some o)(hk:H.rG (H.fE m k).1 o=false):(H.fE m (k+1)).1=(H.fE m k).1/\(H.fE m (k+1)).2=(H.fE m k).2++[o]:=by
 rw[H.MT h];unfold H.nD;rw[ak (by rw[hk];decide)];exact⟨rfl,rfl⟩
theorem alc{m:M.Md}{k:Nat}(hk:k<=m.ag.length):(H.fE m k).1=⟨(H.fE m k).1.au,m.ag,m.aJ⟩:=by
 obtain⟨h1,h2,-,-⟩:=H.IM m k hk;rw[<-h1,<-h2]
theorem ald(m:M.Md):H.iP m=⟨(H.fE m m.ag.length).1.au,(H.fE m m.ag.length).2,m.aJ⟩:=by
 rw[H.XN];obtain⟨h1,h2,-,-⟩:=H.IM m m.ag.length (bj _);show(⟨(H.fE m m.ag.length).1.au,(H.fE m m.ag.length).2,(H.fE m m.ag.length).1.aJ⟩:M.Md)=_;rw[h2]
theorem ale(m:Nat)(md:M.Md)(C:List (List Int))(w:World)(h:cN w m md)(S:H.dH md C) :
  Calls prog 52 #[.pointer (some ⟨m,0,none⟩)] w fun e w'=>e=.returned (.tuple #[])/\cN w' m (H.iP md)/\Below m w w':=by
 obtain⟨i0,hi,cQ,cR,cZ⟩:=info_parts Tryz.Lt;have zO:=ae cQ;clear cQ;have iq:=S.nt;have j9:=S.no;have HS:=ae S;obtain⟨a1,c1,a2,c2,a3,c3,hB,hT,hO,hU⟩:=h;have q1:w.cell? ⟨m,1,none⟩=some (.slice a2 md.ag.length c2):=hB.cell 1;have pX:=hB.lt;have HB:=ae hB;have HT:=ae hT;have HO:=ae hO;have HU:=ae hU;clear hB hT hO hU S;go_enter func52,ntmps52;go_wp2;clear q1;go_loopw[2,13] (fun v i wr=>∃k:Nat,k<=md.ag.length/\i=.int .i64 k/\ir wr (m+1) (.slice a1 md.au.length c1) (H.fE md k).1.au/\jW wr w.heap.size (m+1) v (H.fE md k).2/\w.grownBy wr (Value.slice a1 md.au.length c1).ownBlock) (fun _ i _=>md.ag.length-(intOf i).toNat)
 case atStart=>exact⟨0,bK _,rfl,HT.out,jW.nil _ _ _,gL _ _⟩
 case round=>
  obtain⟨k,hk,rfl,lI,kQ,aF⟩:=hrel;obtain⟨-,-,IQ,vG⟩:=H.IM md k hk;have qO:=ae (X0 HB.out HT.out HO.out HU.out IQ lI aF);have X4:=ae (alc hk);have EZ:=aF.size;by_cases aK:k<md.ag.length
  ·obtain⟨o,ho⟩:∃o,md.ag[k]?=some o:=⟨_,aT aK⟩
   obtain⟨g,ao,p,cp,rfl,gN,-,sR,hR⟩:=(ak8 HT.out HO.out aF).get k o ho;rw[<-X4.out] at qO;have Ch:=ae (fun ml=>H.akV HS.out ho ml);have Rm:=ae (fun ml (q:Nat) hq (t:M.Tn) ht=>ala (q:=q) (t:=t) ho ml hq ht);have oq:=ae (fun ml=>alb ho ml);have MW:=ae (HS.out.to o (bV ho));have DX:=ae kQ;have MX:=ae lI;have bH:=ae aF;clear kQ lI aF ho;obtain⟨mk,yp⟩:∃mk,Hid ((H.fE md k).1=mk):=⟨_,rfl⟩;obtain⟨L,HL⟩:∃L,Hid ((H.fE md k).2=L):=⟨_,rfl⟩;rw[yp.out] at qO Ch Rm oq MX IQ;rw[HL.out] at DX Rm oq vG;have lp:=ae (aj.bB wr 93 (aO o (.slice ao p cp)));have dN:=ae (aQ wr (.cells (aO o (.slice ao p cp)) 93) none);have As:=ae sR;clear sR;go_wp2_with (first|(refine wpList_load_mid rfl 93 _ rfl g (k*16) rfl (aO o (.slice ao p cp)).toList _ hR underlying93 rfl Tryz.db ?_)|(refine aaY rfl 93 _ _ rfl wr.heap.size (aO o (.slice ao p cp)) rfl rfl 93 (aR 0 0 0 0 0 0 0 0 false (.slice none 0 0) 0 0 0 0 0 0) (aj.bB wr 93 _) Tryz.db rfl (nY ..) ?_;rw[World.setRow_alloc_new];generalize wr.alloc (.cells (aO o (.slice ao p cp)) 93)=w3 at *)|(refine dj rfl 93 _ rfl wr.heap.size rfl 93 (aO o (.slice ao p cp)) (0,0) _ lp.out underlying93 rfl Tryz.db ?_));refine(ak3 m mk o ao p cp _ (qO.out.Z dN.out) (by omega)).mono ?_;rintro e w4⟨rfl,bm⟩;have fB:=ae (aC dN.out bm);have jr:=ae (lp.out.kept bm (by simp));clear bm hR lp dN
   cases ml:H.rG mk o with
   | false=>
    have HN:=ae (oq.out ml);obtain⟨ps,q1,q2,q3⟩:=DX.out.Z fB.out;have DQ:=fB.out.size;clear ml;go_wp2_with (first|(refine dj rfl 93 _ rfl wr.heap.size rfl 93 #[.int .i64 o.af,.int .i64 o.a,.int .i64 o.b,.int .i64 o.aP,.int .i64 o.bA,.int .i64 o.to,.int .i64 o.size,.int .i64 o.aE,.bool o.same,.slice ao p cp,.int .i64 o.lo,.int .i64 o.hi,.int .i64 o.aS,.int .i64 o.below,.int .i64 o.left,.int .i64 o.right] (0,0) _ jr.out underlying93 rfl Tryz.db ?_)|(at_builtin;refine ng _ rfl _ _ 88 rfl w.heap.size 93 i0 (.agg (aR 0 0 0 0 0 0 0 0 false (.slice none 0 0) 0 0 0 0 0 0)) 16 144 underlying88 hi zO.out cR cZ rfl (by decide) _ _ _ rfl (q2.alloc _) ⟨w4.heap.size,0,none⟩ 1 1 (aO o (.slice ao p cp)).toList rfl rfl ?c1 ?c2 ?c3 ?c4 ?c5 ?_))
    case c1=>exact kb w4 93 (aO o (.slice ao p cp))
    case c2=>intro u hu;simp[aO] at hu;rcases hu with rfl|rfl|rfl|rfl|rfl|rfl|rfl|rfl|rfl|rfl|rfl|rfl|rfl|rfl|rfl|rfl<;>rfl
    case c3=>unfold maxLen;omega
    case c4=>omega
    case c5=>simp;omega
    intro v' w5 dC cV _;have bC:=aC (aQ w4 _ _) cV;have Bv:=jW.pk q1 q2 q3 (eW As.out fB.out) bC dC;have DY:=mE q2;have xq:=ae ((MX.out.Z fB.out).grow q2 (by decide) (by decide) bC);have iC:Hid (w.grownBy w5 (Value.slice a1 md.au.length c1).ownBlock):=mA (aC bH.out (pd fB.out)) bC DY;have IS:=ae Bv;clear dC cV bC q2 q3 Bv DY;go_wp2;go_roundw
    case rel=>exact⟨k+1,by omega,by go_num,by rw[HN.out.1];exact xq.out,by rw[HN.out.2];exact IS.out,iC.out⟩
    case measure=>simp[intOf];omega
   | true=>
    have HF:=ae (Ch.out ml);have HY:=ae (Rm.out ml);clear ml;have k1:w4.cell? ⟨wr.heap.size,1,none⟩=some (.int .i64 o.a):=jr.out.cell 1;have Ci:=ae (qO.out.Z fB.out);go_wp2_with fail;refine(Ca m mk o.a w4 _ Ci.out (gL _ _) (by omega)).mono ?_;rintro e w5⟨ta,X5,⟨aa,ca,rfl,MN⟩,cJ⟩;have iC:=ae (aC cJ (aQ w5 (.cells #[.int .i64 ta.af,.int .i64 ta.h,.int .i64 ta.w,.int .i64 ta.c,.int .i64 ta.zero,.slice aa ta.data.length ca] 106) none));have k2:w5.cell? ⟨wr.heap.size,2,none⟩=some (.int .i64 o.b):=(jr.out.kept cJ (by simp)).cell 2;have DY:wr.heap.size<w5.heap.size:=(jr.out.kept cJ (by simp)).lt;have X6:=ae MN;clear k1 MN cJ;go_wp2_with fail;refine(Ca m mk o.b w4 _ Ci.out iC.out (by omega)).mono ?_;rintro e w6⟨tb,X7,⟨ab,cb,rfl,MO⟩,fD⟩;have kD:=ae (aC (aC iC.out fD) (aQ w6 (.cells #[.int .i64 tb.af,.int .i64 tb.h,.int .i64 tb.w,.int .i64 tb.c,.int .i64 tb.zero,.slice ab tb.data.length cb] 106) none));have At:=ae (jr.out.kept kD.out (by simp));have s5:w6.cell? ⟨w5.heap.size,5,none⟩=some (.slice aa ta.data.length ca):=((aj.bB w5 106 #[.int .i64 ta.af,.int .i64 ta.h,.int .i64 ta.w,.int .i64 ta.c,.int .i64 ta.zero,.slice aa ta.data.length ca]).kept fD (by simp)).cell 5;have Lp:wr.heap.size<w6.heap.size:=by have:=fD.size;simp at this;omega
    have awD:w5.heap.size<w6.heap.size:=by have:=fD.size;simp at this;omega
    have X9:=ae MO;have sS:=HF.out;rw[X5.out,X7.out] at sS;have Ya:=ae sS;rw[X5.out,X7.out] at HY;have HC:=ae (XB m mk o ao p cp aa ta.data.length ca ta.data ab tb.data.length cb tb.data _ (Ci.out.Z kD.out) (by omega) (m9 (eW (eW As.out fB.out) kD.out) (bK _)) (X6.out.Z kD.out).row (X9.out.Z kD.out).row Ya.out);clear k2 MO fD sS HF Ya;go_wp2_with (refine dj rfl 93 _ rfl wr.heap.size rfl 93 (aO o (.slice ao p cp)) (0,0) _ At.out underlying93 rfl Tryz.db ?_);refine HC.out.mono ?_;rintro e w8⟨⟨g8,c8,rfl,Yb⟩,oU⟩;have fJ:=ae (aC (aC fB.out kD.out) oU);have js:=ae (At.out.kept oU (by simp));obtain⟨t0,t1,t3⟩:=MW.out;obtain⟨q,hq⟩:=fR t0;have hql:q<md.au.length:=by omega
    obtain⟨t,ht⟩:∃t,mk.au[q]?=some t:=⟨_,aT (by omega)⟩;have k5:w8.cell? ⟨wr.heap.size,5,none⟩=some (.int .i64 (q:Int)):=by rw[<-hq];exact js.out.cell 5
    have Yc:=ae (HY.out q hq t ht);have hTr:=MX.out;obtain⟨psr,r1,r2,r3⟩:=hTr;obtain⟨gt,dV,rfl,-,hbt,Rn,-⟩:=xp r2 (by rw[IQ];omega);have awF:=Rn.lt;have Au:=ae (MX.out.Z fJ.out);have DZ:=ae (Rn.kept fJ.out (by simp));obtain⟨Yd,Ar,m',Ro,e',-,-,-,x0,-,-,-,-,x5⟩:=Au.out.get q t ht;simp only[j8,oI,and_true] at e';subst e';have q0:w8.cell? ⟨m,0,none⟩=some (.slice (some ⟨gt,0,none⟩) md.au.length c1):=by
     refine aj.cell (HB.out.kept (aC bH.out (pd fJ.out)) ?_) 0;intro e;simp[Value.ownBlock] at e;omega
    have fx0:=DZ.out.free (q*6);have fx5:=DZ.out.free (q*6+5);have iQ:=ae (Yb.mono (show m+1<=_ by have:=kD.out.size;have:=fB.out.size;omega));have IT:=ae (DX.out.Z fJ.out);generalize O.iu mk o ta.data tb.data=dM at *;clear s5 oU Yb HC r2 r3 Rn t0 t1 t3 hq At X6 X9 iC kD;have IU:decide ((0:Int)<=(q:Int))=true:=by simp
    have IV:decide ((q:Int)<(md.au.length:Int))=true:=by simp;omega
    go_wp2;go_quiet (fail);obtain⟨wq,Aw⟩:∃wq,wq=w8.drewN nq:=⟨_,rfl⟩;rw[<-Aw];have ji:w8.grownBy wq none:=by rw[Aw];exact bF _ _ _
    clear Aw;have y0:=aG ji x0;have y5:=aG ji x5;have y1:=aG ji q0;have y2:=aG ji k5;have MY:=ae (DZ.out.kept ji (by simp));have fy0:=MY.out.free (q*6);have fy5:=MY.out.free (q*6+5);have Ye:=ae (Au.out.Z ji);have Yf:=ae (IT.out.Z ji);have Yg:=ae (iQ.out.Z ji);have iy:=ae (aC bH.out (pd (aC fJ.out ji)));have Cj:m≠gt:=by omega
    have sG:wr.heap.size≠gt:=by omega
    clear x0 x5 q0 k5 fx0 fx5 DZ Au IT iQ ji fJ;go_wp2;go_still_tail 6,(by kernel_rfl);show wpList _ _ _ _ _ wq.drew;have eH:=gH wq none;have z0:=aG eH y0;have z5:=aG eH y5;have z1:=aG eH y1;have z2:=aG eH y2;have sU:=ae (MY.out.kept eH (by simp));have fz0:=sU.out.free (q*6);have Ck:=ae (Ye.out.Z eH);have IW:=ae (Yf.out.Z eH);have sV:=ae (Yg.out.Z eH);have j6:=ae (aC iy.out (pd eH));clear y0 y5 y1 y2 fy0 fy5 MY Ye Yf Yg iy eH;generalize wq.drew=wd at *;have Yh:Hid (ir (wd.setCell ⟨gt,q*6,none⟩ (.int .i64 1)) (m+1) (.slice (some ⟨gt,0,none⟩) md.au.length c1) (mk.au.set q { t with af:=1 })):=Ck.out.put ht 0 (by decide) (.int .i64 1) id (fun _=>rfl) (fun _ h=>h);have iB:=bD wd gt (q*6) (.int .i64 1);have Yi:=ae (IW.out.apart sU.out (by decide) (by decide) iB);have Yj:=ae (sV.out.ak9 sU.out (by decide) iB);have MZ:=ae (aC j6.out (show wd.grownBy _ (Value.slice (some ⟨gt,0,none⟩) md.au.length c1).ownBlock from iB));have Fl:=ae (sU.out.set (q*6) (.int .i64 1));have v5:(wd.setCell ⟨gt,q*6,none⟩ (.int .i64 1)).cell? ⟨gt,q*6+5,none⟩=some (.slice Ar m' Ro):=by
     rw[Fl.out.cell,IX,ak (by omega),<-sU.out.cell];exact z5
    have v1:=X3 iB z1 (by simpa using Cj);have v2:=X3 iB z2 (by simpa using sG);have aln:=ae iB;clear iB IW sV j6 Ck z5 z1 z2;go_wp2;clear z0 fz0;generalize wd.setCell ⟨gt,q*6,none⟩ (.int .i64 1)=we at *;have fv5:=Fl.out.free (q*6+5);go_still_tail 7,(by kernel_rfl);show wpList _ _ _ _ _ we.drew;have eH:=gH we none;have z5:=aG eH v5;have IY:=ae (Fl.out.kept eH (by simp));have fz5:=IY.out.free (q*6+5);have Ck:=ae (Yh.out.Z eH);have IW:=ae (Yi.out.Z eH);have sV:=ae (Yj.out.Z eH);have j6:=ae (aC MZ.out (pd eH));clear v5 v1 v2 fv5 Fl Yh Yi Yj MZ eH aln sU;generalize we.drew=wf at *;have Yk:(mk.au.set q { t with af:=1 })[q]?=some { t with af:=1 }:=by rw[oe,ay rfl,ay (by omega)]
    have HPf:Hid (ir (wf.setCell ⟨gt,q*6+5,none⟩ (.slice (some ⟨g8,0,none⟩) dM.length c8)) (m+1) (.slice (some ⟨gt,0,none⟩) md.au.length c1) ((mk.au.set q { t with af:=1 }).set q { t with af:=1,data:=dM })):=Ck.out.put Yk 5 (by decide) (.slice (some ⟨g8,0,none⟩) dM.length c8) (fun _=>.slice (some ⟨g8,0,none⟩) dM.length c8) (fun _=>rfl) (fun _ _=>sV.out);have iB:=bD wf gt (q*6+5) (.slice (some ⟨g8,0,none⟩) dM.length c8);have HLf:=ae (IW.out.apart IY.out (by decide) (by decide) iB);have Cl:=ae (aC j6.out (show wf.grownBy _ (Value.slice (some ⟨gt,0,none⟩) md.au.length c1).ownBlock from iB));clear iB Ck IW sV j6 Yk ht;go_wp2;go_roundw
    case rel=>exact⟨k+1,by omega,by go_num,by rw[Yc.out.1];have e:=HPf.out;rw[List.set_set] at e;exact e,by rw[Yc.out.2];exact HLf.out,Cl.out⟩
    case measure=>simp[intOf];omega
  ·obtain rfl:k=md.ag.length:=by omega
   have HF:=ae (ald md);obtain⟨la,lc,rfl⟩:=kQ.bT;have IZ:=ae (cN.Rl qO.out (kQ.ag (by omega)));have nG:=qO.out;obtain⟨b1,d1,b2,d2,b3,d3,hB,-⟩:=nG;have q1:wr.cell? ⟨m,1,none⟩=some (.slice b2 md.ag.length d2):=hB.cell 1;have f1:=hB.free 1;have mR:=ae (uk (X2 HT.out pX aF) (Cf (bD wr m 1 (.slice la (H.fE md md.ag.length).2.length lc)) (bj m) (by omega)));clear aF kQ hB lI qO X4;generalize (H.fE md md.ag.length).2=L at *;go_wp2;go_end0;exact⟨rfl,by rw[HF.out];exact IZ.out,mR.out⟩
theorem Yl{d:H.Dr}{n c time:Int}(h:n<0\/(d.aW.length:Int)<=n):H.iU d n c time=d:=by unfold H.iU;rw[ay h]
theorem alr{d:H.Dr}{q:Nat}{c time:Int}(h:q<d.aW.length):H.iU d q c time=⟨d.aW.set q d.lv.length,d.lv++[⟨time,time,c⟩]⟩:=by
 unfold H.iU;rw[ak (by omega),ey]
theorem Tryz.als:(prog.info? 114).map (fun i=>(i.zero,i.size,i.bytes))=some (some (.agg #[.int .i64 0,.int .i64 0,.int .i64 0]),3,24):=by kernel_rfl
theorem M6{w:World}{g d:Nat}{T T':TypeId}{cs ym:Array Value}(h:aj w g T cs)(h':aj w d T' ym)(hT:T≠T'):g≠d:=by
 rintro rfl;unfold aj at h h';rw[h] at h';injection h' with h';injection h' with _ h' _;exact hT h'
theorem Ym(B d:Nat)(I:Int)(x:H.Dr)(n time:Int)(t:M.Tn)(ao:Option Addr)(p cp:Nat)(w:World)(h:pG w B d I x)(iq:x.aW.length<=1000)(j9:x.lv.length<=1000)(hB:B<=w.heap.size)(wt:dW t) :
  Calls prog 56 #[.pointer (some ⟨d,0,none⟩),.int .i64 n,.agg #[.int .i64 t.af,.int .i64 t.h,.int .i64 t.w,.int .i64 t.c,.int .i64 t.zero,.slice ao p cp],.int .i64 time] w fun e w'=>e=.returned (.tuple #[])/\pG w' B d I (H.iU x n (M.cellsOf t) time)/\Below (min B d) w w':=by
 have HD:=ae h;obtain⟨an,cn,al,cl,kR,hN,hL⟩:=h;have q1:w.cell? ⟨d,1,none⟩=some (.slice an x.aW.length cn):=kR.cell 1;have q2:w.cell? ⟨d,2,none⟩=some (.slice al x.lv.length cl):=kR.cell 2;have yD:=kR.lt;have G0:=ae (aQ w (.cells #[.int .i64 t.af,.int .i64 t.h,.int .i64 t.w,.int .i64 t.c,.int .i64 t.zero,.slice ao p cp] 106) none);by_cases h0:n<0
 ·have He:=ae (Yl (d:=x) (c:=M.cellsOf t) (time:=time) (.inl h0))
  go_enter func56,ntmps56;go_wp2;refine bodyPost_ret (v:=.tuple #[]) (by simp[results,Tryz.results56,go_sem]) rfl ?_;exact⟨rfl,by rw[He.out];exact HD.out.Z G0.out,Ai G0.out (by omega)⟩
 ·by_cases h1:(x.aW.length:Int)<=n
  ·have He:=ae (Yl (d:=x) (c:=M.cellsOf t) (time:=time) (.inr h1))
   go_enter func56,ntmps56;go_wp2;refine bodyPost_ret (v:=.tuple #[]) (by simp[results,Tryz.results56,go_sem]) rfl ?_;exact⟨rfl,by rw[He.out];exact HD.out.Z G0.out,Ai G0.out (by omega)⟩
  ·obtain⟨q,rfl⟩:=fR (show 0<=n by omega)
   have hq:q<x.aW.length:=by omega
   obtain⟨b,hb⟩:∃b,x.aW[q]?=some b:=⟨_,aT hq⟩;obtain⟨g1,rfl,-,alu,d1⟩:=hN.get q b hb;have He:=ae (alr (d:=x) (c:=M.cellsOf t) (time:=time) hq);obtain⟨ry,Yn,e1,-,Yo,kd,-⟩:=xp hN (by omega);simp only[j8,oI,and_true] at e1;subst e1;have eF:=M6 kd kR (by decide);have gN:=kd.lt;have HN:=ae (hN.Z G0.out);have HL:=ae (eW hL G0.out);have nj:=ae (kd.kept G0.out (by simp));have sU:=ae (kR.kept G0.out (by simp));have DZ:=ae (aj.bB w 106 #[.int .i64 t.af,.int .i64 t.h,.int .i64 t.w,.int .i64 t.c,.int .i64 t.zero,.slice ao p cp]);clear hN hL kd kR hb;go_enter func56,ntmps56;go_wp2;have y1:=aG G0.out q1;have y2:=aG G0.out q2;have y3:=aG G0.out d1;clear q1 q2 d1;generalize w.alloc (.cells #[.int .i64 t.af,.int .i64 t.h,.int .i64 t.w,.int .i64 t.c,.int .i64 t.zero,.slice ao p cp] 106)=w1 at *;go_still_tail 10,(by kernel_rfl);show wpList _ _ _ _ _ w1.drew;have G1:=ae (aC G0.out (gH w1 none));have z1:=aG (gH w1 none) y3;have Yp:=ae (HN.out.Z (gH w1 none));have yE:=ae (eW HL.out (gH w1 none));have iV:=ae (nj.out.kept (gH w1 none) (by simp));have Yq:=ae (sU.out.kept (gH w1 none) (by simp));have Ax:=ae (DZ.out.kept (gH w1 none) (by simp));clear y1 y2 y3 G0 HN HL nj sU DZ;generalize w1.drew=wd at *;have f1:=iV.out.free q;have iB:=bD wd g1 q (.int .i64 x.lv.length);have Yr:=ae (show aZ (wd.setCell ⟨g1,q,none⟩ (.int .i64 x.lv.length)) B (.slice (some ⟨g1,0,none⟩) x.aW.length cn) (x.aW.set q x.lv.length) by
    have e:=DW Yp.out q (.int .i64 x.lv.length);unfold aZ;rw[List.map_set,kG];exact e)
   have qP:=ae (pE yE.out iV.out (by decide) iB);have IY:=ae (Yq.out.kept iB (by simp;omega));have Ys:=ae (Ax.out.kept iB (by simp;omega));have dZ:=ae (uk (Ai (B:=min B d) G1.out (by omega)) (Cf (B:=min B d) iB (by omega) (by have:=G1.out.size;omega)));have DU:w.heap.size<(wd.setCell ⟨g1,q,none⟩ (.int .i64 x.lv.length)).heap.size:=Ys.out.lt;have u0:wd.cell? ⟨w.heap.size,0,none⟩=some (.int .i64 t.af):=Ax.out.cell 0;have u1:wd.cell? ⟨w.heap.size,1,none⟩=some (.int .i64 t.h):=Ax.out.cell 1;have u2:wd.cell? ⟨w.heap.size,2,none⟩=some (.int .i64 t.w):=Ax.out.cell 2;have u3:wd.cell? ⟨w.heap.size,3,none⟩=some (.int .i64 t.c):=Ax.out.cell 3;have u4:wd.cell? ⟨w.heap.size,4,none⟩=some (.int .i64 t.zero):=Ax.out.cell 4;have u5:wd.cell? ⟨w.heap.size,5,none⟩=some (.slice ao p cp):=Ax.out.cell 5;have alv:w.heap.size≠g1:=by omega
   have Rp:¬w.heap.size=g1:=alv;have Dq:w.heap.size<wd.heap.size:=Ax.out.lt;have uZ:=ae iB;clear iB Yp yE Yq Ax G1;go_wp2_with fail;refine(LI t (.slice ao p cp) _ wt).mono ?_;rintro e w3⟨rfl,aU⟩;have sW:(wd.setCell ⟨g1,q,none⟩ (.int .i64 x.lv.length)).grownBy w3 none:=aC (aQ _ _ _) aU;have Yt:=ae (Yr.out.Z sW);have qg:=ae (eW qP.out sW);have Yu:=ae (IY.out.kept sW (by simp));have mR:Hid (aj w3 wd.heap.size 114 #[.int .i64 time,.int .i64 time,.int .i64 0]):=by
    have e:=(aj.bB (wd.setCell ⟨g1,q,none⟩ (.int .i64 x.lv.length)) 114 #[.int .i64 time,.int .i64 time,.int .i64 0]).kept aU (by simp);exact(show aj w3 wd.heap.size 114 _ by simpa using e)
   have Yv:∀g,(Value.slice al x.lv.length cl).ownBlock=some g->B<=g/\g<wd.heap.size:=fun g hg=>by
    have e:=jd qP.out g hg;exact⟨e.1,by simpa using e.2⟩
   have Yw:=ae Yv;clear Yv;have fW:=ae (uk dZ.out (Ai (B:=min B d) sW (by omega)));have l2:w3.cell? ⟨wd.heap.size,2,none⟩=some (.int .i64 0):=mR.out.cell 2;have f2:=mR.out.free 2;generalize Yx:M.cellsOf t=cq at *;have Hcq:=ae Yx;clear Yx aU sW u0 u1 u2 u3 u4 u5 z1 f1 Yr qP IY Ys dZ;have rm:=bD w3 wd.heap.size 2 (.int .i64 cq);have hdw:d<wd.heap.size:=by omega
   have M7:=ae (pE Yt.out mR.out (by decide) rm);have oV:Hid (pC (w3.setCell ⟨wd.heap.size,2,none⟩ (.int .i64 cq)) B (.slice al x.lv.length cl) x.lv):=by
    refine World.ownsRow.kept qg.out rm ?_
    cases hv:(Value.slice al x.lv.length cl).ownBlock with
    | none=>exact .inl rfl
    | some g=>exact .inr (by intro e;injection e with e;have:=(Yw.out g hv).2;omega)
   have Rq:=ae (Yu.out.kept rm (by simp;omega));have M8:Hid (aj (w3.setCell ⟨wd.heap.size,2,none⟩ (.int .i64 cq)) wd.heap.size 114 #[.int .i64 time,.int .i64 time,.int .i64 cq]):=mR.out.set 2 (.int .i64 cq);have fB:=ae (uk fW.out (Cf (B:=min B d) rm (by omega) (by have:=mR.out.lt;omega)));have DQ:wd.heap.size<(w3.setCell ⟨wd.heap.size,2,none⟩ (.int .i64 cq)).heap.size:=M8.out.lt;clear mR Yu qg Yt rm fW;obtain⟨i0,hi,cQ,cR,cZ⟩:=info_parts Tryz.als;have zO:=ae cQ;clear cQ;go_wp2;clear l2 f2;generalize w3.setCell ⟨wd.heap.size,2,none⟩ (.int .i64 cq)=w4 at *;have c2:w4.cell? ⟨d,2,none⟩=some (.slice al x.lv.length cl):=Rq.out.cell 2;have l0:w4.cell? ⟨wd.heap.size,0,none⟩=some (.int .i64 time):=M8.out.cell 0;have l1:w4.cell? ⟨wd.heap.size,1,none⟩=some (.int .i64 time):=M8.out.cell 1;have l2:w4.cell? ⟨wd.heap.size,2,none⟩=some (.int .i64 cq):=M8.out.cell 2;have hd4:d<w4.heap.size:=by omega
   have aly:Hid (some d≠(Value.slice al x.lv.length cl).ownBlock):=by
    intro e;rcases IP oV.out with h' | ⟨g,cs,h',-,yC⟩
    ·rw[h'] at e;exact aN e (by simp)
    ·rw[h'] at e;injection e with e;subst e;exact M6 yC Rq.out (by decide) rfl
   go_region_law ((refine step_append_lies _ (by rfl) _ _ _ (by rfl) B 114 i0 (.agg #[.int .i64 0,.int .i64 0,.int .i64 0]) 3 24 underlying76 hi zO.out cR cZ rfl (by omega) (.slice al x.lv.length cl) x.lv.length (x.lv.flatMap BZ) (by rfl) ((oV.out.alloc _).drew) ⟨w4.heap.size,0,none⟩ 1 1 [.int .i64 time,.int .i64 time,.int .i64 cq] (by rfl) rfl (World.news_of_block (cs:=#[.int .i64 time,.int .i64 time,.int .i64 cq]) (heap_alloc_new w4 _)) (by intro u hu;simp at hu;rcases hu with rfl|rfl|rfl<;>rfl) (by omega) (by unfold maxLen;omega) (by omega) (by simp;omega) (w4.heap.size+1) (by simp) ?_;intro g5 c5 w5 IJ Yy alz DY;have bC:=aC (aC (aQ w4 _ _) (gH _ _)) Yy;have Ja:=Rq.out.kept bC aly.out;have cd5:w5.cell? ⟨d,2,none⟩=some (.slice al x.lv.length cl):=Ja.cell 2;have fd5:=Ja.free 2))
   all_goals
    have HN5:=ae (nV M7.out oV.out (by decide) bC);have xu:=bD w5 d 2 (.slice (some ⟨g5,0,none⟩) (x.lv.length+1) c5);have alB:=ae (Ja.set 2 (.slice (some ⟨g5,0,none⟩) (x.lv.length+1) c5));have Na:=ae (pE HN5.out Ja (by decide) xu);have Nb:=ae (pE IJ Ja (by decide) xu);have iC:Hid (Below (min B d) w4 w5):=by
     rcases hv:(Value.slice al x.lv.length cl).ownBlock with _|g
     ·rw[hv] at bC;exact Ai bC (by omega)
     ·rw[hv] at bC;exact Cf bC (by have:=(Yw.out g hv).1;omega) (by omega)
    have kD:=ae (uk (uk fB.out iC.out) (Cf (B:=min B d) xu (by omega) (by have:=bC.size;omega)));clear xu bC IJ Yy alz c2 l0 l1 l2;go_wp2;go_end0;refine⟨rfl,?_,kD.out⟩;rw[Hcq.out,He.out];exact⟨_,_,_,_,by have e:=alB.out;simpa using e,by have e:=Na.out;unfold aZ;simpa using e,by unfold pC;have e:=Nb.out;simpa[BZ] using e⟩
theorem alC{os:List M.Op}{i k:Nat}{o:M.Op}(h:os[k]?=some o)(hk:k≠i):(os.take (k+1)).eraseIdx i=(os.take k).eraseIdx i++[o]:=by
 have hl:=M.bP h;rw[H.kj h];by_cases c:i<k
 ·rw[List.eraseIdx_append_of_lt_length (by rw[Ae];omega)]
 ·rw[List.eraseIdx_of_length_le (by simp;omega),List.eraseIdx_of_length_le (by simp;omega)]
theorem alD{os:List M.Op}{i:Nat}{o:M.Op}(h:os[i]?=some o):(os.take (i+1)).eraseIdx i=(os.take i).eraseIdx i:=by
 have hl:=M.bP h;rw[H.kj h,List.eraseIdx_append_of_length_le (by simp;omega),List.eraseIdx_of_length_le (l:=os.take i) (by simp;omega)];have:i-(os.take i).length=0:=by simp;omega
 rw[this];simp
theorem alE(B:Nat)(a:Option Addr)(n c:Nat)(os:List M.Op)(i:Nat)(w:World)(h:je w B (.slice a n c) os)(hn:os.length<=255)(_hi':i<=255) :
  Calls prog 94 #[.slice a n c,.int .i64 i] w fun e w'=>(∃ao c',e=.returned (.slice ao (os.eraseIdx i).length c')/\jW w' w.heap.size B (.slice ao (os.eraseIdx i).length c') (os.eraseIdx i))/\w.grownBy w' none:=by
 obtain⟨i0,hi,cQ,cR,cZ⟩:=info_parts Tryz.Lt;have zO:=ae cQ;clear cQ;obtain rfl:=h.len;have HO:=ae h;clear h;go_enter func94,ntmps94;go_wp2;go_loopw[5,10] (fun v j wr=>∃k:Nat,k<=os.length/\j=.int .i64 k/\jW wr w.heap.size B v ((os.take k).eraseIdx i)/\w.grownBy wr none) (fun _ j _=>os.length-(intOf j).toNat)
 case atStart=>exact⟨0,bK _,rfl,jW.nil _ _ _,gL _ _⟩
 case round=>
  obtain⟨k,hk,rfl,kQ,aF⟩:=hrel;have EZ:=aF.size;by_cases aK:k<os.length
  ·obtain⟨o,ho⟩:∃o,os[k]?=some o:=⟨_,aT aK⟩
   obtain⟨g,ao,p,cp,rfl,gN,-,sR,hR⟩:=(HO.out.Z aF).get k o ho;have jB:((os.take k).eraseIdx i).length<=k:=by
    have:=List.length_eraseIdx_le (os.take k) i;rw[Ae] at this;omega
   have Jb:=ae kQ;have bH:=ae aF;have As:=ae sR;have lp:=ae (aj.bB wr 93 (aO o (.slice ao p cp)));have dN:=ae (aQ wr (.cells (aO o (.slice ao p cp)) 93) none);clear kQ aF sR;by_cases vH:k=i
   ·have HS:=ae (alD (os:=os) (i:=i) (by rw[<-vH];exact ho))
    have alF:((k:Int) != (i:Int))=false:=by simp[vH]
    have Jc:=ae vH;clear ho vH;go_wp2_with (first|(refine wpList_load_mid rfl 93 _ rfl g (k*16) rfl (aO o (.slice ao p cp)).toList _ hR underlying93 rfl Tryz.db ?_)|(refine aaY rfl 93 _ _ rfl wr.heap.size (aO o (.slice ao p cp)) rfl rfl 93 (aR 0 0 0 0 0 0 0 0 false (.slice none 0 0) 0 0 0 0 0 0) (aj.bB wr 93 _) Tryz.db rfl (nY ..) ?_;rw[World.setRow_alloc_new];generalize wr.alloc (.cells (aO o (.slice ao p cp)) 93)=w3 at *));go_roundw
    case rel=>exact⟨k+1,by omega,by go_num,by rw[Jc.out,HS.out];have e:=Jb.out.Z dN.out;rw[Jc.out] at e;exact e,aC bH.out dN.out⟩
    case measure=>simp[intOf];omega
   ·have HS:=ae (alC ho vH)
    have alF:((k:Int) != (i:Int))=true:=by simp;omega
    obtain⟨L,HL⟩:∃L,Hid ((os.take k).eraseIdx i=L):=⟨_,rfl⟩;rw[HL.out] at Jb HS jB;clear ho vH;go_wp2_with (first|(refine wpList_load_mid rfl 93 _ rfl g (k*16) rfl (aO o (.slice ao p cp)).toList _ hR underlying93 rfl Tryz.db ?_)|(refine aaY rfl 93 _ _ rfl wr.heap.size (aO o (.slice ao p cp)) rfl rfl 93 (aR 0 0 0 0 0 0 0 0 false (.slice none 0 0) 0 0 0 0 0 0) (aj.bB wr 93 _) Tryz.db rfl (nY ..) ?_;rw[World.setRow_alloc_new];generalize wr.alloc (.cells (aO o (.slice ao p cp)) 93)=w3 at *)|(refine dj rfl 93 _ rfl wr.heap.size rfl 93 #[.int .i64 o.af,.int .i64 o.a,.int .i64 o.b,.int .i64 o.aP,.int .i64 o.bA,.int .i64 o.to,.int .i64 o.size,.int .i64 o.aE,.bool o.same,.slice ao p cp,.int .i64 o.lo,.int .i64 o.hi,.int .i64 o.aS,.int .i64 o.below,.int .i64 o.left,.int .i64 o.right] (0,0) _ lp.out underlying93 rfl Tryz.db ?_;refine IN ?_));refine ae ?_;obtain⟨ps,q1,q2,q3⟩:=Jb.out.Z dN.out;have Dq:=dN.out.size;go_wp2_with (at_builtin;refine ng _ rfl _ _ 88 rfl w.heap.size 93 i0 (.agg (aR 0 0 0 0 0 0 0 0 false (.slice none 0 0) 0 0 0 0 0 0)) 16 144 underlying88 hi zO.out cR cZ rfl (by decide) _ _ _ rfl (q2.alloc _) ⟨w3.heap.size,0,none⟩ 1 1 (aO o (.slice ao p cp)).toList rfl rfl ?c1 ?c2 ?c3 ?c4 ?c5 ?_)
    case c1=>exact kb w3 93 (aO o (.slice ao p cp))
    case c2=>intro u hu;simp[aO] at hu;rcases hu with rfl|rfl|rfl|rfl|rfl|rfl|rfl|rfl|rfl|rfl|rfl|rfl|rfl|rfl|rfl|rfl<;>rfl
    case c3=>unfold maxLen;omega
    case c4=>omega
    case c5=>simp;omega
    intro v' w4 dC cV _;have bC:=aC (aQ w3 _ _) cV;have zM:=jW.pk q1 q2 q3 (eW As.out dN.out) bC dC;have dR:=mE q2;have sF:w.grownBy w4 none:=mA (aC bH.out dN.out) bC dR;have Nc:=ae zM;have fB:=ae sF;clear dC cV bC q2 q3 zM sF dR;go_wp2;go_roundw
    case rel=>exact⟨k+1,by omega,by go_num,by rw[HS.out];exact Nc.out,fB.out⟩
    case measure=>simp[intOf];omega
  ·obtain rfl:k=os.length:=by omega
   rw[jo] at kQ;obtain⟨ao,c2,rfl⟩:=kQ.bT;have Jb:=ae kQ;have bH:=ae aF;clear kQ aF;go_wp2;go_ret;exact⟨⟨ao,c2,rfl,Jb.out⟩,bH.out⟩
theorem Yz{md mk:M.Md}{j:Nat}(h:H.rH (j+1) mk=H.drop md):H.rH j (H.kA mk j)=H.drop md:=h
theorem alG(m:Nat)(md:M.Md)(w:World)(h:cN w m md)(iq:md.ag.length<=255)(j9:md.aJ.length<=255) :
  Calls prog 53 #[.pointer (some ⟨m,0,none⟩)] w fun e w'=>e=.returned (.tuple #[])/\cN w' m (H.drop md)/\Below m w w':=by
 have HM:=ae h;obtain⟨a1,c1,a2,c2,a3,c3,hB,hT,hO,hU⟩:=h;have q1:w.cell? ⟨m,1,none⟩=some (.slice a2 md.ag.length c2):=hB.cell 1;have pX:=hB.lt;clear hB hT hO hU;go_enter func53,ntmps53;go_wp2;clear q1;go_loopw[2] (fun i wr=>∃(j:Nat) (mk:M.Md),i=.int .i64 ((j:Int)-1)/\j<=mk.ag.length/\mk.ag.length<=255/\Hid (mk.aJ.length<=255)/\Hid (H.rH j mk=H.drop md)/\cN wr m mk/\Below m w wr) (fun i _=>(intOf i+1).toNat)
 case atStart=>exact⟨md.ag.length,md,rfl,bj _,iq,j9,rfl,HM.out,Below.refl _ _⟩
 case round=>
  obtain⟨j,mk,rfl,hj,sX,Fm,HD,Nd,bU⟩:=hrel
  cases j with
  | zero=>
   have qO:=ae Nd;have eJ:=ae bU;have HD':=ae (show mk=H.drop md from HD.out);clear Nd bU;go_wp2;go_end0;exact⟨rfl,by rw[<-HD'.out];exact qO.out,eJ.out⟩
  | succ j=>
   obtain⟨o,ho⟩:∃o,mk.ag[j]?=some o:=⟨_,aT (by omega)⟩;have qO:=ae Nd;have eJ:=ae bU;obtain⟨a1,c1,a2,c2,a3,c3,hB,hT,hO,hU⟩:=Nd;obtain⟨g,ao,p,cp,rfl,gN,-,sR,hR⟩:=hO.get j o ho;have q1:wr.cell? ⟨m,1,none⟩=some (.slice (some ⟨g,0,none⟩) mk.ag.length c2):=hB.cell 1;have d5:wr.cell? ⟨g,j*16+5,none⟩=some (.int .i64 o.to):=hR 5 _ rfl;have HO:=ae hO;have pX:=hB.lt;have e1:(((j+1:Nat):Int)-1)=(j:Int):=by omega
   rw[e1];have HC:=ae (Rg m mk o.to wr qO.out sX Fm.out);clear hB hT hO hU bU;go_wp2_with fail;refine HC.out.mono ?_;rintro e w1⟨rfl,aH⟩;have q2:w1.cell? ⟨m,1,none⟩=some (.slice (some ⟨g,0,none⟩) mk.ag.length c2):=aG aH q1;have nG:=ae (qO.out.Z aH);have Cm:=ae (HO.out.Z aH);have Nf:m<w1.heap.size:=by have:=aH.size;omega
   have nj:=ae (uk eJ.out (Ai aH (by omega)));clear aH q1 d5 HC hR;by_cases hu:H.cH mk o.to=0
   ·have HE:=ae (H.XR ho hu)
    have HL:=ae (H.XQ mk j);have uh:((H.cH mk o.to:Int)==0)=true:=by simp[hu]
    clear ho hu;generalize H.cH mk o.to=un at *;have HC:=ae (alE (m+1) (some ⟨g,0,none⟩) mk.ag.length c2 mk.ag j w1 Cm.out sX (by omega));go_wp2_with fail;refine HC.out.mono ?_;rintro e w2⟨⟨dO,Rr,rfl,vI⟩,aM⟩;have Jd:m<w2.heap.size:=by have:=aM.size;omega
    have IZ:=ae (cN.Rl (nG.out.Z aM) (vI.ag (by omega)));have hf:w2.frozen? ⟨m,1,none⟩=false:=by obtain⟨_,_,_,_,_,_,hB,-⟩:=nG.out.Z aM;exact hB.free 1
    have q3:w2.cell? ⟨m,1,none⟩=some (.slice (some ⟨g,0,none⟩) mk.ag.length c2):=aG aM q2;have Fl:=ae (uk nj.out (uk (Ai aM (by omega)) (Cf (bD w2 m 1 (.slice dO (mk.ag.eraseIdx j).length Rr)) (bj m) (by omega))));have D2:=ae (Yz HD.out);have HE2:Hid (H.kA mk j=⟨mk.au,mk.ag.eraseIdx j,mk.aJ⟩):=HE.out;clear aM vI q2 HC;rw[HE2.out] at D2 HL;generalize mk.ag.eraseIdx j=L at *;go_wp2;go_roundw
    case rel=>exact⟨j,⟨mk.au,L,mk.aJ⟩,by go_num,by have:=HL.out;simp at this ⊢;omega,by have:=HL.out;simp at this ⊢;omega,Fm.out,D2.out,IZ.out,Fl.out⟩
    case measure=>simp[intOf];try omega
   ·have HE:=ae (H.XS ho hu)
    have uh:((H.cH mk o.to:Int)==0)=false:=by simp[hu]
    have D2:=ae (Yz HD.out);rw[HE.out] at D2;clear ho hu;generalize H.cH mk o.to=un at *;go_wp2;go_roundw
    case rel=>exact⟨j,mk,by go_num,by omega,sX,Fm.out,D2.out,nG.out,nj.out⟩
    case measure=>simp[intOf];try omega
theorem alJ(m:Nat)(md:M.Md)(w:World)(h:cN w m md)(Is:md.au.length<=255)(iq:md.ag.length<=255)(j9:md.aJ.length<=255) :
  Calls prog 55 #[.pointer (some ⟨m,0,none⟩)] w fun e w'=>e=.returned (.tuple #[])/\cN w' m (H.mL md)/\Below m w w':=by
 obtain⟨a1,c1,a2,c2,a3,c3,hB,hT,hO,hU⟩:=h;have q0:w.cell? ⟨m,0,none⟩=some (.slice a1 md.au.length c1):=hB.cell 0;have pX:=hB.lt;have HB:=ae hB;have HT:=ae hT;have HO:=ae hO;have HU:=ae hU;clear hB hT hO hU;go_enter func55,ntmps55;go_wp2;clear q0;go_loopw[9] (fun i wr=>∃k:Nat,k<=md.au.length/\i=.int .i64 k/\ir wr (m+1) (.slice a1 md.au.length c1) (H.qf md k)/\w.grownBy wr (Value.slice a1 md.au.length c1).ownBlock) (fun i _=>md.au.length-(intOf i).toNat)
 case atStart=>exact⟨0,bK _,rfl,by rw[H.akX];exact HT.out,gL _ _⟩
 case round=>
  obtain⟨k,hk,rfl,lI,aF⟩:=hrel;have YA:(H.qf md k).length=md.au.length:=by unfold H.qf;rw[List.length_mapIdx]
  have qO:=ae (X0 HB.out HT.out HO.out HU.out YA lI aF);have vJ:=ae lI;have bH:=ae aF;have EZ:=aF.size;clear aF;by_cases aK:k<md.au.length
  ·obtain⟨t,ht⟩:∃t,md.au[k]?=some t:=⟨_,aT aK⟩
   have HC:=ae (Rg m ⟨H.qf md k,md.ag,md.aJ⟩ k wr qO.out iq j9);have HU:Hid (H.cH ⟨H.qf md k,md.ag,md.aJ⟩ k=H.cH md k):=rfl;rw[HU.out] at HC;obtain⟨g,ao,m',cp,rfl,-,Cn,-,-,-,-,-,-,d5⟩:=lI.get k t (H.XU ht);clear lI;go_wp2_with fail;refine HC.out.mono ?_;rintro e w1⟨rfl,aH⟩;have vK:=ae (vJ.out.Z aH);have dN:=ae (aC bH.out (pd aH));have Rs:=aG aH d5;have qQ:=qO.out.Z aH;obtain⟨b1,e1,_,_,_,_,alK,-⟩:=qQ;have YB:=HB.out.kept (aC bH.out (pd aH)) (by intro e;simp[Value.ownBlock] at e;omega);have q1:w1.cell? ⟨m,0,none⟩=some (.slice (some ⟨g,0,none⟩) md.au.length c1):=YB.cell 0;clear aH d5 HC alK YB;by_cases hu:H.cH md k=0
   ·have HS:=ae (H.akZ ht hu)
    have uh:((H.cH md k:Int)==0)=true:=by simp[hu]
    obtain⟨ps,r1,r2,r3⟩:=vK.out;obtain⟨g',dV,e',-,-,yC,-⟩:=xp r2 (by rw[YA];omega);simp only[j8,oI,and_true] at e';subst e';have f5:=yC.free (k*6+5);have HP:=ae (vK.out.put (H.XU ht) 5 (by decide) (.slice none 0 0) (fun _=>.slice none 0 0) (t':={ t with data:=[] }) (fun _=>rfl) (fun _ _=>aZ.nil _ _));have dZ:=ae (aC dN.out (bD w1 g (k*6+5) (.slice none 0 0)));clear r2 r3 yC hu ht;generalize H.cH md k=un at *;go_wp2;go_roundw
    case rel=>exact⟨k+1,by omega,by go_num,by rw[HS.out];exact HP.out,dZ.out⟩
    case measure=>simp[intOf];omega
   ·have HS:=ae (H.ak0 hu)
    have uh:((H.cH md k:Int)==0)=false:=by simp[hu]
    clear hu ht;generalize H.cH md k=un at *;go_wp2;go_roundw
    case rel=>exact⟨k+1,by omega,by go_num,by rw[HS.out];exact vK.out,dN.out⟩
    case measure=>simp[intOf];omega
  ·obtain rfl:k=md.au.length:=by omega
   have HF:=ae (H.akY md);have mR:=ae (X2 HT.out pX bH.out);clear lI;go_wp2;go_end0;exact⟨rfl,by rw[<-HF.out];exact qO.out,mR.out⟩
end Go.Proofs.YtcnhfffgbamonabGreat
