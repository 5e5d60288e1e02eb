import Derived.StillTailTactics
import Derived.Deep.RegionLaw
import Derived.Deep.AppendLies
import Derived.Test.YtcnhfffgbamonaaGreatZ14
set_option maxRecDepth 100000
set_option maxHeartbeats 6400000
namespace Go.Proofs.YtcnhfffgbamonaaGreat
open Go.Proofs.Tryz
open Go.RowKit
def pP(w:World)(B d:Nat)(I:Int)(x:H.Dr):Prop:=
 ∃an cn al cl,aj w d 102 #[.int .i64 I,.slice an x.aW.length cn,.slice al x.lv.length cl]/\aZ w B (.slice an x.aW.length cn) x.aW/\pK w B (.slice al x.lv.length cl) x.lv
theorem pP.Z{w w':World}{B d:Nat}{I:Int}{x:H.Dr}(h:pP w B d I x)(hg:w.grownBy w' none):pP w' B d I x:=by
 obtain⟨an,cn,al,cl,h1,h2,h3⟩:=h;exact⟨an,cn,al,cl,h1.kept hg (by simp),h2.Z hg,eY h3 hg⟩
theorem ama(xs:List H.dE)(i:Nat)(x:H.dE)(time:Int)(h:xs[i]?=some x):(xs.flatMap Cm).set (i*3+1) (.int .i64 time)=(xs.set i ⟨x.f,time,x.c⟩).flatMap Cm:=
 vS Cm 3 (fun _=>rfl) xs i 1 x ⟨x.f,time,x.c⟩ (.int .i64 time) h (by decide) rfl
theorem YM{d:H.Dr}{n time:Int}(h:n<0\/(d.aW.length:Int)<=n):H.ig time d n=d:=by unfold H.ig;rw[ay h]
theorem YN{d:H.Dr}{q:Nat}{time b:Int}(hn:d.aW[q]?=some b)(hb:b<0\/(d.lv.length:Int)<=b):H.ig time d q=d:=by
 have:=M.bP hn;unfold H.ig H.D5;rw[ak (by omega),eC,getD_some hn,ak (by omega)]
theorem amb{d:H.Dr}{q i:Nat}{time:Int}{x:H.dE}(hn:d.aW[q]?=some (i:Int))(hx:d.lv[i]?=some x):H.ig time d q=⟨d.aW,d.lv.set i ⟨x.f,time,x.c⟩⟩:=by
 have:=M.bP hn;have:=M.bP hx;unfold H.ig H.D5;rw[ak (by omega),eC,getD_some hn,ay (by omega),eC,getD_some hx]
def Cv(B:Nat)(w w':World):Prop:=w'=w\/∃G cs,aj w G 165 cs/\B<=G/\w.grownBy w' (some G)
theorem Cv.YO{B B':Nat}{w w':World}{v:Value}{l:List Int}(h:Cv B w w')(hI:aZ w B' v l):aZ w' B' v l:=by
 rcases h with rfl|⟨G,cs,hB,-,hg⟩
 ·exact hI
 ·exact pL hI hB (by decide) hg
theorem Cv.gy{B g:Nat}{T:TypeId}{cs:Array Value}{w w':World}(h:Cv B w w')(hI:aj w g T cs)(hT:T≠165):aj w' g T cs:=by
 rcases h with rfl|⟨G,ua,hB,-,hg⟩
 ·exact hI
 ·refine hI.kept hg ?_
  intro e;injection e with e;subst e;unfold aj at hB hI;rw[hI] at hB;injection hB with hB;injection hB with _ hB _;exact hT hB
theorem Cv.gr{B:Nat}{a w w':World}{row:Option Nat}(h:Cv B w w')(hg:a.grownBy w row)(hB:a.heap.size<=B):a.grownBy w' row:=by
 rcases h with rfl|⟨G,ua,-,hb,fS⟩
 ·exact hg
 ·exact dF hg fS (by omega)
theorem YP(B d:Nat)(I:Int)(x:H.Dr)(n time:Int)(w:World)(h:pP w B d I x)(_hn1:x.aW.length<=1000)(_hn2:x.lv.length<=1000) :
  Calls prog 107 #[.pointer (some ⟨d,0,none⟩),.int .i64 n,.int .i64 time] w fun e w'=>e=.returned (.tuple #[])/\pP w' B d I (H.ig time x n)/\Cv B w w':=by
 have HD:=ae h;obtain⟨an,cn,al,cl,hB,hN,hL⟩:=h;have q1:w.cell? ⟨d,1,none⟩=some (.slice an x.aW.length cn):=hB.cell 1;have q2:w.cell? ⟨d,2,none⟩=some (.slice al x.lv.length cl):=hB.cell 2;have HB:=ae hB;clear hB;by_cases h0:n<0
 ·have He:=ae (YM (d:=x) (time:=time) (.inl h0))
  go_enter func107,ntmps107;go_wp2;refine bodyPost_ret (v:=.tuple #[]) (by simp[results,Tryz.results107,go_sem]) rfl ?_;exact⟨rfl,by rw[He.out];exact HD.out,.inl rfl⟩
 ·by_cases h1:(x.aW.length:Int)<=n
  ·have He:=ae (YM (d:=x) (time:=time) (.inr h1))
   go_enter func107,ntmps107;go_wp2;refine bodyPost_ret (v:=.tuple #[]) (by simp[results,Tryz.results107,go_sem]) rfl ?_;exact⟨rfl,by rw[He.out];exact HD.out,.inl rfl⟩
  ·obtain⟨q,rfl⟩:=fT (show 0<=n by omega)
   have hq:q<x.aW.length:=by omega
   obtain⟨b,hb⟩:∃b,x.aW[q]?=some b:=⟨_,aS hq⟩;obtain⟨g1,rfl,-,-,d1⟩:=hN.get q b hb;have HN:=ae hN;by_cases h2:b<0
   ·have He:=ae (YN (time:=time) hb (.inl h2))
    clear hb hL hN;go_enter func107,ntmps107;go_wp2;go_end0;exact⟨rfl,by rw[He.out];exact HD.out,.inl rfl⟩
   ·by_cases h3:(x.lv.length:Int)<=b
    ·have He:=ae (YN (time:=time) hb (.inr h3))
     clear hb hL hN;go_enter func107,ntmps107;go_wp2;go_end0;exact⟨rfl,by rw[He.out];exact HD.out,.inl rfl⟩
    ·obtain⟨i,rfl⟩:=fT (show 0<=b by omega)
     have fq:i<x.lv.length:=by omega
     obtain⟨y,hy⟩:∃y,x.lv[i]?=some y:=⟨_,aS fq⟩;have He:=ae (amb (time:=time) hb hy);obtain⟨g2,dY,rfl,-,yV,ff,-⟩:=xH hL (by omega);obtain⟨xq,e2,-,-,d2,-⟩:=pK.get hL i y hy;simp only[kj,oP,and_true] at e2;subst e2;have f2:=ff.free (i*3+1);have HL:=ae (show pK (w.setCell ⟨g2,i*3+1,none⟩ (.int .i64 time)) B (.slice (some ⟨g2,0,none⟩) x.lv.length cl) (x.lv.set i ⟨y.f,time,y.c⟩) by
      have:=Eg hL (i*3+1) (.int .i64 time);rw[ama _ _ _ _ hy] at this;unfold pK;rw[kK];exact this)
     have HG:Hid (Cv B w (w.setCell ⟨g2,i*3+1,none⟩ (.int .i64 time))):=.inr ⟨g2,dY,ff,yV,bD _ _ _ _⟩;have Ny:=ae (HG.out.gy HB.out (by decide));have HN':=ae (HG.out.YO HN.out);clear hb hy hL hN ff;go_enter func107,ntmps107;go_wp2;go_end0;refine⟨rfl,?_,HG.out⟩;rw[He.out];exact⟨_,_,_,_,by simpa using Ny.out,HN'.out,by simpa using HL.out⟩
theorem Js{p:Prop}(h:Hid p):p:=h
def j4(w:World)(B1 B2:Nat)(v:Value)(os:List M.Op):Prop:=
 ∃ps:List (M.Op×Value),ps.map (·.1)=os/\w.ownsRow B1 142 16 v os.length (ps.flatMap fun p=>(aO p.1 p.2).toList)/\∀p∈ps,gF w B2 p.2 p.1.bM
theorem j4.nil(w:World)(B1 B2:Nat):j4 w B1 B2 (.slice none 0 0) []:=⟨[],rfl,ki _ _ _ _,by simp⟩
theorem j4.Z{w w':World}{B1 B2:Nat}{v:Value}{os:List M.Op}(h:j4 w B1 B2 v os)(hg:w.grownBy w' none):j4 w' B1 B2 v os:=by
 obtain⟨ps,h1,h2,h3⟩:=h;exact⟨ps,h1,eY h2 hg,fun p hp=>eY (h3 p hp) hg⟩
theorem j4.ag{w:World}{B1 B2:Nat}{v:Value}{os:List M.Op}(h:j4 w B1 B2 v os)(hb:B2<=B1):jl w B2 v os:=by
 obtain⟨ps,h1,h2,h3⟩:=h;exact⟨ps,h1,nC h2 hb,h3⟩
theorem jl.MD{w:World}{B:Nat}{v:Value}{os:List M.Op}(h:jl w B v os):j4 w B B v os:=h
theorem j4.bT{w:World}{B1 B2:Nat}{v:Value}{os:List M.Op}(h:j4 w B1 B2 v os):∃ao c,v=.slice ao os.length c:=by
 obtain⟨ps,h1,h2,h3⟩:=h;exact gP h2
theorem jl.len{w:World}{B:Nat}{a:Option Addr}{n c:Nat}{os:List M.Op}(h:jl w B (.slice a n c) os):n=os.length:=by
 obtain⟨AL,c',e⟩:=h.MD.bT;injection e
theorem j4.py{w w2:World}{B1 B2:Nat}{v v':Value}{ps:List (M.Op×Value)}{os:List M.Op}{o:M.Op}{sv:Value}(h1:ps.map (·.1)=os)(h2:w.ownsRow B1 142 16 v os.length (ps.flatMap fun p=>(aO p.1 p.2).toList))(h3:∀p∈ps,gF w B2 p.2 p.1.bM)
  (hd:gF w B2 sv o.bM) (aM:w.grownBy w2 v.ownBlock)
  (cB:w2.ownsRow B1 142 16 v' (os.length+1) ((ps.flatMap fun p=>(aO p.1 p.2).toList)++(aO o sv).toList)):j4 w2 B1 B2 v' (os++[o]):=by
 refine⟨ps++[(o,sv)],by simp[h1],by simpa using cB,?_⟩;intro p hp;rcases List.mem_append.1 hp with hp|hp
 ·exact oc (h3 p hp) h2 (by decide) aM
 ·simp at hp
  subst hp;exact oc hd h2 (by decide) aM
theorem cN.RU{w:World}{m:Nat}{md:M.Md}{os:List M.Op}{ao:Option Addr}{c:Nat}(h:cN w m md)(hO:jl w (m+1) (.slice ao os.length c) os):cN (w.setCell ⟨m,1,none⟩ (.slice ao os.length c)) m ⟨md.au,os,md.aK⟩:=by
 obtain⟨a1,c1,a2,c2,a3,c3,hB,hT,-,hU⟩:=h;have hg:=bD w m 1 (.slice ao os.length c);exact⟨a1,c1,ao,c,a3,c3,by have:=hB.set 1 (.slice ao os.length c);simpa using this,hT.kept hg (by omega),hO.kept hg (by omega),px hU hg (by omega)⟩
theorem uD{a w w':World}{B:Nat}(h:Below B a w)(k:Below B w w'):Below B a w':=h.trans k
theorem YQ(x:Int)(o:M.Op)(ao:Option Addr)(p c:Nat)(w:World) :
  Calls prog 173 #[.int .i64 x,.agg (aO o (.slice ao p c))] w fun e w'=>e=.returned (.int .i64 (R.cW x o.lo o.hi))/\w.grownBy w' none:=by
 have G0:=ae (aQ w (.cells (oo o (.slice ao p c)) 142) none);show Calls prog 173 #[.int .i64 x,.agg (oo o (.slice ao p c))] w _;by_cases h1:x<o.lo
 ·have He:=ae (show R.cW x o.lo o.hi=o.lo by unfold R.cW;rw[ay h1])
  go_enter func173,ntmps173;go_wp2;go_ret;exact⟨cH He.out.symm,G0.out⟩
 ·by_cases h2:o.hi<x
  ·have He:=ae (show R.cW x o.lo o.hi=o.hi by unfold R.cW;rw[ak h1,ay h2])
   go_enter func173,ntmps173;go_wp2;go_ret;exact⟨cH He.out.symm,G0.out⟩
  ·have He:=ae (show R.cW x o.lo o.hi=x by unfold R.cW;rw[ak h1,ak h2])
   go_enter func173,ntmps173;go_wp2;go_ret;exact⟨cH He.out.symm,G0.out⟩
theorem ir.apart{w w':World}{B G:Nat}{T:TypeId}{v:Value}{ts:List M.Tn}{cs:Array Value}(h:ir w B v ts)(hB:aj w G T cs)(hT:T≠158)(h3:T≠3)(hg:w.grownBy w' (some G)):ir w' B v ts:=by
 obtain⟨ps,q1,q2,q3⟩:=h;exact⟨ps,q1,pL q2 hB hT hg,fun p hp=>pL (q3 p hp) hB h3 hg⟩
theorem jl.apart{w w':World}{B G:Nat}{T:TypeId}{v:Value}{os:List M.Op}{cs:Array Value}(h:jl w B v os)(hB:aj w G T cs)(hT:T≠142)(h3:T≠224)(hg:w.grownBy w' (some G)):jl w' B v os:=by
 obtain⟨ps,q1,q2,q3⟩:=h;exact⟨ps,q1,pL q2 hB hT hg,fun p hp=>pL (q3 p hp) hB h3 hg⟩
theorem j4.apart{w w':World}{B1 B2 G:Nat}{T:TypeId}{v:Value}{os:List M.Op}{cs:Array Value}(h:j4 w B1 B2 v os)(hB:aj w G T cs)(hT:T≠142)(h3:T≠224)(hg:w.grownBy w' (some G)):j4 w' B1 B2 v os:=by
 obtain⟨ps,q1,q2,q3⟩:=h;exact⟨ps,q1,pL q2 hB hT hg,fun p hp=>pL (q3 p hp) hB h3 hg⟩
theorem Jt{w:World}{B:Nat}{E:TypeId}{size n:Nat}{v:Value}{xs:List Value}(h:w.ownsRow B E size v n xs):v.ownBlock=none\/∃g cs,v.ownBlock=some g/\B<=g/\aj w g E cs:=by
 rcases h.2 with⟨rfl,_⟩|⟨g,cap,dY,rfl,hb,hh,_⟩
 ·exact .inl rfl
 ·exact .inr ⟨g,dY,rfl,hb,hh⟩
theorem ir.grow{w w':World}{B B':Nat}{E:TypeId}{size n:Nat}{v u:Value}{xs:List Value}{ts:List M.Tn}(h:ir w B v ts)(ho:w.ownsRow B' E size u n xs)(hT:E≠158)(h3:E≠3)(hg:w.grownBy w' u.ownBlock):ir w' B v ts:=by
 rcases Jt ho with e|⟨g,cs,e,-,hB⟩
 ·rw[e] at hg;exact h.Z hg
 ·rw[e] at hg;exact h.apart hB hT h3 hg
theorem amd{w wr:World}{m:Nat}{a1 a2:Option Addr}{n1 c1 n2 c2:Nat}{ts:List M.Tn}{os:List M.Op}(hT:ir w (m+1) (.slice a1 n1 c1) ts)(hO:jl w (m+1) (.slice a2 n2 c2) os)(hg:w.grownBy wr (Value.slice a1 n1 c1).ownBlock):jl wr (m+1) (.slice a2 n2 c2) os:=by
 obtain⟨ps,h1,h2,h3⟩:=hT;rcases Jt h2 with e|⟨g,cs,e,hb,qZ⟩
 ·rw[e] at hg;exact hO.Z hg
 ·rw[e] at hg;exact hO.apart qZ (by decide) (by decide) hg
theorem YR{w wr:World}{m:Nat}{md:M.Md}{a1 a2 a3:Option Addr}{c1 c2 c3:Nat}{ts:List M.Tn}(hB:aj w m 139 #[.slice a1 md.au.length c1,.slice a2 md.ag.length c2,.slice a3 md.aK.length c3])(hT:ir w (m+1) (.slice a1 md.au.length c1) md.au)(hO:jl w (m+1) (.slice a2 md.ag.length c2) md.ag)(hU:aZ w (m+1) (.slice a3 md.aK.length c3) md.aK)
  (hl:ts.length=md.au.length) (YS:ir wr (m+1) (.slice a1 md.au.length c1) ts) (hg:w.grownBy wr (Value.slice a1 md.au.length c1).ownBlock):cN wr m ⟨ts,md.ag,md.aK⟩:=by
 obtain⟨ps,h1,h2,h3⟩:=hT;rcases Jt h2 with e|⟨g,cs,e,hb,qZ⟩
 ·rw[e] at hg
  refine⟨a1,c1,a2,c2,a3,c3,?_,?_,hO.Z hg,hU.Z hg⟩
  ·show aj wr m _ #[.slice a1 ts.length c1,_,_];rw[hl];exact hB.kept hg (by simp)
  ·show ir wr (m+1) (.slice a1 ts.length c1) ts;rw[hl];exact YS
 ·rw[e] at hg
  refine⟨a1,c1,a2,c2,a3,c3,?_,?_,hO.apart qZ (by decide) (by decide) hg,pL hU qZ (by decide) hg⟩
  ·show aj wr m _ #[.slice a1 ts.length c1,_,_];rw[hl];exact hB.kept hg (by simp;omega)
  ·show ir wr (m+1) (.slice a1 ts.length c1) ts;rw[hl];exact YS
theorem YT{w wr:World}{m:Nat}{a1:Option Addr}{n c1:Nat}{ts:List M.Tn}(hT:ir w (m+1) (.slice a1 n c1) ts)(hm:m<w.heap.size)(hg:w.grownBy wr (Value.slice a1 n c1).ownBlock):Below m w wr:=by
 obtain⟨ps,h1,h2,h3⟩:=hT;rcases Jt h2 with e|⟨g,cs,e,hb,qZ⟩
 ·rw[e] at hg;exact AB hg (by omega)
 ·rw[e] at hg;exact Cu hg (by omega) (by omega)
theorem YU{w w':World}{G:Nat}(hg:w.grownBy w' (some G)){a:Addr}{v:Value}(h:w.cell? a=some v)(ey:a.block≠G):w'.cell? a=some v:=by
 rw[World.cell?_of_block (hg.block a.block (ql w _ h) (by intro e;injection e with e;exact ey e))];exact h
theorem aZ.ame{w w':World}{B G:Nat}{T:TypeId}{v:Value}{l:List Int}{cs:Array Value}(h:aZ w B v l)(hB:aj w G T cs)(hT:T≠3)(hg:w.grownBy w' (some G)):aZ w' B v l:=pL h hB hT hg
theorem amf{m:M.Md}{k:Nat}{o:M.Op}(h:m.ag[k]?=some o)(hk:H.rP (H.fF m k).1 o=true){q:Nat}(hq:o.to=q){t:M.Tn}(ht:(H.fF m k).1.au[q]?=some t) :
  (H.fF m (k+1)).1.au=(H.fF m k).1.au.set q { t with af:=1,data:=O.iu (H.fF m k).1 o (M.aq (H.fF m k).1 o.a).data (M.aq (H.fF m k).1 o.b).data }/\(H.fF m (k+1)).2=(H.fF m k).2:=by
 rw[H.Nw h];unfold H.nK;rw[ay hk];refine⟨?_,rfl⟩;unfold H.oX;have e:M.aq (H.fF m k).1 o.to=t:=by
  rw[hq];exact L7 ht
 rw[e,hq,eC]
theorem amg{m:M.Md}{k:Nat}{o:M.Op}(h:m.ag[k]?=some o)(hk:H.rP (H.fF m k).1 o=false):(H.fF m (k+1)).1=(H.fF m k).1/\(H.fF m (k+1)).2=(H.fF m k).2++[o]:=by
 rw[H.Nw h];unfold H.nK;rw[ak (by rw[hk];decide)];exact⟨rfl,rfl⟩
theorem amh{m:M.Md}{k:Nat}(hk:k<=m.ag.length):(H.fF m k).1=⟨(H.fF m k).1.au,m.ag,m.aK⟩:=by
 obtain⟨h1,h2,-,-⟩:=H.Jr m k hk;rw[<-h1,<-h2]
theorem ami(m:M.Md):H.iR m=⟨(H.fF m m.ag.length).1.au,(H.fF m m.ag.length).2,m.aK⟩:=by
 rw[H.YE];obtain⟨h1,h2,-,-⟩:=H.Jr m m.ag.length (bj _);show(⟨(H.fF m m.ag.length).1.au,(H.fF m m.ag.length).2,(H.fF m m.ag.length).1.aK⟩:M.Md)=_;rw[h2]
theorem amj(m:Nat)(md:M.Md)(C:List (List Int))(w:World)(h:cN w m md)(S:H.dH md C) :
  Calls prog 101 #[.pointer (some ⟨m,0,none⟩)] w fun e w'=>e=.returned (.tuple #[])/\cN w' m (H.iR md)/\Below m w w':=by
 obtain⟨i0,hi,cP,cQ,cZ⟩:=info_parts Tryz.L4;have Ae:=ae cP;clear cP;have iq:=S.nt;have kl:=S.no;have HS:=ae S;obtain⟨a1,c1,a2,c2,a3,c3,hB,hT,hO,hU⟩:=h;have q1:w.cell? ⟨m,1,none⟩=some (.slice a2 md.ag.length c2):=hB.cell 1;have qk:=hB.lt;have HB:=ae hB;have HT:=ae hT;have HO:=ae hO;have HU:=ae hU;clear hB hT hO hU S;go_enter func101,ntmps101;go_wp2;clear q1;go_loopw[2,13] (fun v i wr=>∃k:Nat,k<=md.ag.length/\i=.int .i64 k/\ir wr (m+1) (.slice a1 md.au.length c1) (H.fF md k).1.au/\j4 wr w.heap.size (m+1) v (H.fF md k).2/\w.grownBy wr (Value.slice a1 md.au.length c1).ownBlock) (fun _ i _=>md.ag.length-(intOf i).toNat)
 case atStart=>exact⟨0,bK _,rfl,HT.out,j4.nil _ _ _,fZ _ _⟩
 case round=>
  obtain⟨k,hk,rfl,lL,kT,aF⟩:=hrel;obtain⟨-,-,Ju,vU⟩:=H.Jr md k hk;have q7:=ae (YR HB.out HT.out HO.out HU.out Ju lL aF);have YV:=ae (amh hk);have Ft:=aF.size;by_cases aJ:k<md.ag.length
  ·obtain⟨o,ho⟩:∃o,md.ag[k]?=some o:=⟨_,aS aJ⟩
   obtain⟨g,ao,p,cp,rfl,gQ,-,tr,hR⟩:=(amd HT.out HO.out aF).get k o ho;rw[<-YV.out] at q7;have Cw:=ae (fun mx=>H.alY HS.out ho mx);have RV:=ae (fun mx (q:Nat) hq (t:M.Tn) ht=>amf (q:=q) (t:=t) ho mx hq ht);have oD:=ae (fun mx=>amg ho mx);have Nz:=ae (HS.out.to o (bU ho));have Eh:=ae kT;have NA:=ae lL;have bH:=ae aF;clear kT lL aF ho;obtain⟨mk,yJ⟩:∃mk,Hid ((H.fF md k).1=mk):=⟨_,rfl⟩;obtain⟨L,HL⟩:∃L,Hid ((H.fF md k).2=L):=⟨_,rfl⟩;rw[yJ.out] at q7 Cw RV oD NA Ju;rw[HL.out] at Eh RV oD vU;have lC:=ae (aj.bA wr 142 (aO o (.slice ao p cp)));have dN:=ae (aQ wr (.cells (aO o (.slice ao p cp)) 142) none);have AM:=ae tr;clear tr;go_wp2_with (first|(refine wpList_load_mid rfl 142 _ rfl g (k*16) rfl (aO o (.slice ao p cp)).toList _ hR underlying142 rfl Tryz.de ?_)|(refine aaY rfl 142 _ _ rfl wr.heap.size (aO o (.slice ao p cp)) rfl rfl 142 (aR 0 0 0 0 0 0 0 0 false (.slice none 0 0) 0 0 0 0 0 0) (aj.bA wr 142 _) Tryz.de rfl (oe ..) ?_;rw[World.setRow_alloc_new];generalize wr.alloc (.cells (aO o (.slice ao p cp)) 142)=w3 at *)|(refine dj rfl 142 _ rfl wr.heap.size rfl 142 (aO o (.slice ao p cp)) (0,0) _ lC.out underlying142 rfl Tryz.de ?_));refine(al8 m mk o ao p cp _ (q7.out.Z dN.out) (by omega)).mono ?_;rintro e w4⟨rfl,bm⟩;have fC:=ae (aC dN.out bm);have iS:=ae (lC.out.kept bm (by simp));clear bm hR lC dN
   cases mx:H.rP mk o with
   | false=>
    have HN:=ae (oD.out mx);obtain⟨ps,q1,q2,q3⟩:=Eh.out.Z fC.out;have Ec:=fC.out.size;clear mx;go_wp2_with (first|(refine dj rfl 142 _ rfl wr.heap.size rfl 142 #[.int .i64 o.af,.int .i64 o.a,.int .i64 o.b,.int .i64 o.aP,.int .i64 o.bC,.int .i64 o.to,.int .i64 o.size,.int .i64 o.aE,.bool o.same,.slice ao p cp,.int .i64 o.lo,.int .i64 o.hi,.int .i64 o.aT,.int .i64 o.below,.int .i64 o.left,.int .i64 o.right] (0,0) _ iS.out underlying142 rfl Tryz.de ?_)|(at_builtin;refine nD _ rfl _ _ 137 rfl w.heap.size 142 i0 (.agg (aR 0 0 0 0 0 0 0 0 false (.slice none 0 0) 0 0 0 0 0 0)) 16 144 underlying137 hi Ae.out cQ cZ rfl (by decide) _ _ _ rfl (q2.alloc _) ⟨w4.heap.size,0,none⟩ 1 1 (aO o (.slice ao p cp)).toList rfl rfl ?c1 ?c2 ?c3 ?c4 ?c5 ?_))
    case c1=>exact kb w4 142 (aO o (.slice ao p cp))
    case c2=>intro u hu;simp[aO] at hu;rcases hu with rfl|rfl|rfl|rfl|rfl|rfl|rfl|rfl|rfl|rfl|rfl|rfl|rfl|rfl|rfl|rfl<;>rfl
    case c3=>unfold maxLen;omega
    case c4=>omega
    case c5=>simp;omega
    intro v' w5 dC cR _;have bq:=aC (aQ w4 _ _) cR;have BK:=j4.py q1 q2 q3 (eY AM.out fC.out) bq dC;have Ei:=mJ q2;have xI:=ae ((NA.out.Z fC.out).grow q2 (by decide) (by decide) bq);have iC:Hid (w.grownBy w5 (Value.slice a1 md.au.length c1).ownBlock):=l8 (aC bH.out (pr fC.out)) bq Ei;have Jv:=ae BK;clear dC cR bq q2 q3 BK Ei;go_wp2;go_roundw
    case rel=>exact⟨k+1,by omega,by go_num,by rw[HN.out.1];exact xI.out,by rw[HN.out.2];exact Jv.out,iC.out⟩
    case measure=>simp[intOf];omega
   | true=>
    have HF:=ae (Cw.out mx);have HY:=ae (RV.out mx);clear mx;have k1:w4.cell? ⟨wr.heap.size,1,none⟩=some (.int .i64 o.a):=iS.out.cell 1;have Cx:=ae (q7.out.Z fC.out);go_wp2_with fail;refine(Cp m mk o.a w4 _ Cx.out (fZ _ _) (by omega)).mono ?_;rintro e w5⟨ta,YW,⟨aa,ca,rfl,Nq⟩,cK⟩;have iC:=ae (aC cK (aQ w5 (.cells #[.int .i64 ta.af,.int .i64 ta.h,.int .i64 ta.w,.int .i64 ta.c,.int .i64 ta.zero,.slice aa ta.data.length ca] 158) none));have k2:w5.cell? ⟨wr.heap.size,2,none⟩=some (.int .i64 o.b):=(iS.out.kept cK (by simp)).cell 2;have Ei:wr.heap.size<w5.heap.size:=(iS.out.kept cK (by simp)).lt;have YX:=ae Nq;clear k1 Nq cK;go_wp2_with fail;refine(Cp m mk o.b w4 _ Cx.out iC.out (by omega)).mono ?_;rintro e w6⟨tb,YY,⟨ab,cb,rfl,Nr⟩,fE⟩;have kI:=ae (aC (aC iC.out fE) (aQ w6 (.cells #[.int .i64 tb.af,.int .i64 tb.h,.int .i64 tb.w,.int .i64 tb.c,.int .i64 tb.zero,.slice ab tb.data.length cb] 158) none));have AN:=ae (iS.out.kept kI.out (by simp));have s5:w6.cell? ⟨w5.heap.size,5,none⟩=some (.slice aa ta.data.length ca):=((aj.bA w5 158 #[.int .i64 ta.af,.int .i64 ta.h,.int .i64 ta.w,.int .i64 ta.c,.int .i64 ta.zero,.slice aa ta.data.length ca]).kept fE (by simp)).cell 5;have L0:wr.heap.size<w6.heap.size:=by have:=fE.size;simp at this;omega
    have axM:w5.heap.size<w6.heap.size:=by have:=fE.size;simp at this;omega
    have YZ:=ae Nr;have tu:=HF.out;rw[YW.out,YY.out] at tu;have Y0:=ae tu;rw[YW.out,YY.out] at HY;have HC:=ae (Ys m mk o ao p cp aa ta.data.length ca ta.data ab tb.data.length cb tb.data _ (Cx.out.Z kI.out) (by omega) (nC (eY (eY AM.out fC.out) kI.out) (bK _)) (YX.out.Z kI.out).row (YZ.out.Z kI.out).row Y0.out);clear k2 Nr fE tu HF Y0;go_wp2_with (refine dj rfl 142 _ rfl wr.heap.size rfl 142 (aO o (.slice ao p cp)) (0,0) _ AN.out underlying142 rfl Tryz.de ?_);refine HC.out.mono ?_;rintro e w8⟨⟨g8,c8,rfl,Y1⟩,pa⟩;have fD:=ae (aC (aC fC.out kI.out) pa);have jy:=ae (AN.out.kept pa (by simp));obtain⟨t0,t1,t3⟩:=Nz.out;obtain⟨q,hq⟩:=fT t0;have hql:q<md.au.length:=by omega
    obtain⟨t,ht⟩:∃t,mk.au[q]?=some t:=⟨_,aS (by omega)⟩;have k5:w8.cell? ⟨wr.heap.size,5,none⟩=some (.int .i64 (q:Int)):=by rw[<-hq];exact jy.out.cell 5
    have Y4:=ae (HY.out q hq t ht);have hTr:=NA.out;obtain⟨psr,r1,r2,r3⟩:=hTr;obtain⟨gt,dY,rfl,-,hbt,RW,-⟩:=xH r2 (by rw[Ju];omega);have axO:=RW.lt;have AO:=ae (NA.out.Z fD.out);have Ej:=ae (RW.kept fD.out (by simp));obtain⟨Y5,AL,m',RX,e',-,-,-,x0,-,-,-,-,x5⟩:=AO.out.get q t ht;simp only[kj,oP,and_true] at e';subst e';have q0:w8.cell? ⟨m,0,none⟩=some (.slice (some ⟨gt,0,none⟩) md.au.length c1):=by
     refine aj.cell (HB.out.kept (aC bH.out (pr fD.out)) ?_) 0;intro e;simp[Value.ownBlock] at e;omega
    have fx0:=Ej.out.free (q*6);have fx5:=Ej.out.free (q*6+5);have iT:=ae (Y1.mono (show m+1<=_ by have:=kI.out.size;have:=fC.out.size;omega));have Jw:=ae (Eh.out.Z fD.out);generalize O.iu mk o ta.data tb.data=dM at *;clear s5 pa Y1 HC r2 r3 RW t0 t1 t3 hq AN YX YZ iC kI;have Jx:decide ((0:Int)<=(q:Int))=true:=by simp
    have Jy:decide ((q:Int)<(md.au.length:Int))=true:=by simp;omega
    go_wp2;go_quiet (fail);obtain⟨wq,AP⟩:∃wq,wq=w8.drewN nq:=⟨_,rfl⟩;rw[<-AP];have jo:w8.grownBy wq none:=by rw[AP];exact bE _ _ _
    clear AP;have y0:=aG jo x0;have y5:=aG jo x5;have y1:=aG jo q0;have y2:=aG jo k5;have NB:=ae (Ej.out.kept jo (by simp));have fy0:=NB.out.free (q*6);have fy5:=NB.out.free (q*6+5);have Y6:=ae (AO.out.Z jo);have Y7:=ae (Jw.out.Z jo);have Y8:=ae (iT.out.Z jo);have iy:=ae (aC bH.out (pr (aC fD.out jo)));have Cy:m≠gt:=by omega
    have sU:wr.heap.size≠gt:=by omega
    clear x0 x5 q0 k5 fx0 fx5 Ej AO Jw iT jo fD;go_wp2;go_still_tail 6,(by kernel_rfl);show wpList _ _ _ _ _ wq.drew;have eH:=gE wq none;have z0:=aG eH y0;have z5:=aG eH y5;have z1:=aG eH y1;have z2:=aG eH y2;have tx:=ae (NB.out.kept eH (by simp));have fz0:=tx.out.free (q*6);have Cz:=ae (Y6.out.Z eH);have Jz:=ae (Y7.out.Z eH);have tA:=ae (Y8.out.Z eH);have ke:=ae (aC iy.out (pr eH));clear y0 y5 y1 y2 fy0 fy5 NB Y6 Y7 Y8 iy eH;generalize wq.drew=wd at *;have Y9:Hid (ir (wd.setCell ⟨gt,q*6,none⟩ (.int .i64 1)) (m+1) (.slice (some ⟨gt,0,none⟩) md.au.length c1) (mk.au.set q { t with af:=1 })):=Cz.out.put ht 0 (by decide) (.int .i64 1) id (fun _=>rfl) (fun _ h=>h);have iB:=bD wd gt (q*6) (.int .i64 1);have Za:=ae (Jz.out.apart tx.out (by decide) (by decide) iB);have Zb:=ae (tA.out.ame tx.out (by decide) iB);have NC:=ae (aC ke.out (show wd.grownBy _ (Value.slice (some ⟨gt,0,none⟩) md.au.length c1).ownBlock from iB));have FN:=ae (tx.out.set (q*6) (.int .i64 1));have v5:(wd.setCell ⟨gt,q*6,none⟩ (.int .i64 1)).cell? ⟨gt,q*6+5,none⟩=some (.slice AL m' RX):=by
     rw[FN.out.cell,JB,ak (by omega),<-tx.out.cell];exact z5
    have v1:=YU iB z1 (by simpa using Cy);have v2:=YU iB z2 (by simpa using sU);have amr:=ae iB;clear iB Jz tA ke Cz z5 z1 z2;go_wp2;clear z0 fz0;generalize wd.setCell ⟨gt,q*6,none⟩ (.int .i64 1)=we at *;have fv5:=FN.out.free (q*6+5);go_still_tail 7,(by kernel_rfl);show wpList _ _ _ _ _ we.drew;have eH:=gE we none;have z5:=aG eH v5;have JC:=ae (FN.out.kept eH (by simp));have fz5:=JC.out.free (q*6+5);have Cz:=ae (Y9.out.Z eH);have Jz:=ae (Za.out.Z eH);have tA:=ae (Zb.out.Z eH);have ke:=ae (aC NC.out (pr eH));clear v5 v1 v2 fv5 FN Y9 Za Zb NC eH amr tx;generalize we.drew=wf at *;have Zc:(mk.au.set q { t with af:=1 })[q]?=some { t with af:=1 }:=by rw[ox,ay rfl,ay (by omega)]
    have HPf:Hid (ir (wf.setCell ⟨gt,q*6+5,none⟩ (.slice (some ⟨g8,0,none⟩) dM.length c8)) (m+1) (.slice (some ⟨gt,0,none⟩) md.au.length c1) ((mk.au.set q { t with af:=1 }).set q { t with af:=1,data:=dM })):=Cz.out.put Zc 5 (by decide) (.slice (some ⟨g8,0,none⟩) dM.length c8) (fun _=>.slice (some ⟨g8,0,none⟩) dM.length c8) (fun _=>rfl) (fun _ _=>tA.out);have iB:=bD wf gt (q*6+5) (.slice (some ⟨g8,0,none⟩) dM.length c8);have HLf:=ae (Jz.out.apart JC.out (by decide) (by decide) iB);have CA:=ae (aC ke.out (show wf.grownBy _ (Value.slice (some ⟨gt,0,none⟩) md.au.length c1).ownBlock from iB));clear iB Cz Jz tA ke Zc ht;go_wp2;go_roundw
    case rel=>exact⟨k+1,by omega,by go_num,by rw[Y4.out.1];have e:=HPf.out;rw[List.set_set] at e;exact e,by rw[Y4.out.2];exact HLf.out,CA.out⟩
    case measure=>simp[intOf];omega
  ·obtain rfl:k=md.ag.length:=by omega
   have HF:=ae (ami md);obtain⟨la,lc,rfl⟩:=kT.bT;have JD:=ae (cN.RU q7.out (kT.ag (by omega)));have nN:=q7.out;obtain⟨b1,d1,b2,d2,b3,d3,hB,-⟩:=nN;have q1:wr.cell? ⟨m,1,none⟩=some (.slice b2 md.ag.length d2):=hB.cell 1;have f1:=hB.free 1;have mV:=ae (uD (YT HT.out qk aF) (Cu (bD wr m 1 (.slice la (H.fF md md.ag.length).2.length lc)) (bj m) (by omega)));clear aF kT hB lL q7 YV;generalize (H.fF md md.ag.length).2=L at *;go_wp2;go_end0;exact⟨rfl,by rw[HF.out];exact JD.out,mV.out⟩
theorem Zd{d:H.Dr}{n c time:Int}(h:n<0\/(d.aW.length:Int)<=n):H.iZ d n c time=d:=by unfold H.iZ;rw[ay h]
theorem amv{d:H.Dr}{q:Nat}{c time:Int}(h:q<d.aW.length):H.iZ d q c time=⟨d.aW.set q d.lv.length,d.lv++[⟨time,time,c⟩]⟩:=by
 unfold H.iZ;rw[ak (by omega),eC]
theorem Tryz.amw:(prog.info? 165).map (fun i=>(i.zero,i.size,i.bytes))=some (some (.agg #[.int .i64 0,.int .i64 0,.int .i64 0]),3,24):=by kernel_rfl
theorem ND{w:World}{g d:Nat}{T T':TypeId}{cs ua:Array Value}(h:aj w g T cs)(h':aj w d T' ua)(hT:T≠T'):g≠d:=by
 rintro rfl;unfold aj at h h';rw[h] at h';injection h' with h';injection h' with _ h' _;exact hT h'
theorem Ze(B d:Nat)(I:Int)(x:H.Dr)(n time:Int)(t:M.Tn)(ao:Option Addr)(p cp:Nat)(w:World)(h:pP w B d I x)(iq:x.aW.length<=1000)(kl:x.lv.length<=1000)(hB:B<=w.heap.size)(wt:dZ t) :
  Calls prog 105 #[.pointer (some ⟨d,0,none⟩),.int .i64 n,.agg #[.int .i64 t.af,.int .i64 t.h,.int .i64 t.w,.int .i64 t.c,.int .i64 t.zero,.slice ao p cp],.int .i64 time] w fun e w'=>e=.returned (.tuple #[])/\pP w' B d I (H.iZ x n (M.cellsOf t) time)/\Below (min B d) w w':=by
 have HD:=ae h;obtain⟨an,cn,al,cl,kU,hN,hL⟩:=h;have q1:w.cell? ⟨d,1,none⟩=some (.slice an x.aW.length cn):=kU.cell 1;have q2:w.cell? ⟨d,2,none⟩=some (.slice al x.lv.length cl):=kU.cell 2;have yW:=kU.lt;have G0:=ae (aQ w (.cells #[.int .i64 t.af,.int .i64 t.h,.int .i64 t.w,.int .i64 t.c,.int .i64 t.zero,.slice ao p cp] 158) none);by_cases h0:n<0
 ·have He:=ae (Zd (d:=x) (c:=M.cellsOf t) (time:=time) (.inl h0))
  go_enter func105,ntmps105;go_wp2;refine bodyPost_ret (v:=.tuple #[]) (by simp[results,Tryz.results105,go_sem]) rfl ?_;exact⟨rfl,by rw[He.out];exact HD.out.Z G0.out,AB G0.out (by omega)⟩
 ·by_cases h1:(x.aW.length:Int)<=n
  ·have He:=ae (Zd (d:=x) (c:=M.cellsOf t) (time:=time) (.inr h1))
   go_enter func105,ntmps105;go_wp2;refine bodyPost_ret (v:=.tuple #[]) (by simp[results,Tryz.results105,go_sem]) rfl ?_;exact⟨rfl,by rw[He.out];exact HD.out.Z G0.out,AB G0.out (by omega)⟩
  ·obtain⟨q,rfl⟩:=fT (show 0<=n by omega)
   have hq:q<x.aW.length:=by omega
   obtain⟨b,hb⟩:∃b,x.aW[q]?=some b:=⟨_,aS hq⟩;obtain⟨g1,rfl,-,amx,d1⟩:=hN.get q b hb;have He:=ae (amv (d:=x) (c:=M.cellsOf t) (time:=time) hq);obtain⟨rJ,Zf,e1,-,Zg,km,-⟩:=xH hN (by omega);simp only[kj,oP,and_true] at e1;subst e1;have ey:=ND km kU (by decide);have gQ:=km.lt;have HN:=ae (hN.Z G0.out);have HL:=ae (eY hL G0.out);have nF:=ae (km.kept G0.out (by simp));have tx:=ae (kU.kept G0.out (by simp));have Ej:=ae (aj.bA w 158 #[.int .i64 t.af,.int .i64 t.h,.int .i64 t.w,.int .i64 t.c,.int .i64 t.zero,.slice ao p cp]);clear hN hL km kU hb;go_enter func105,ntmps105;go_wp2;have y1:=aG G0.out q1;have y2:=aG G0.out q2;have y3:=aG G0.out d1;clear q1 q2 d1;generalize w.alloc (.cells #[.int .i64 t.af,.int .i64 t.h,.int .i64 t.w,.int .i64 t.c,.int .i64 t.zero,.slice ao p cp] 158)=w1 at *;go_still_tail 10,(by kernel_rfl);show wpList _ _ _ _ _ w1.drew;have G1:=ae (aC G0.out (gE w1 none));have z1:=aG (gE w1 none) y3;have Zh:=ae (HN.out.Z (gE w1 none));have yX:=ae (eY HL.out (gE w1 none));have iD:=ae (nF.out.kept (gE w1 none) (by simp));have Zi:=ae (tx.out.kept (gE w1 none) (by simp));have AQ:=ae (Ej.out.kept (gE w1 none) (by simp));clear y1 y2 y3 G0 HN HL nF tx Ej;generalize w1.drew=wd at *;have f1:=iD.out.free q;have iB:=bD wd g1 q (.int .i64 x.lv.length);have Zj:=ae (show aZ (wd.setCell ⟨g1,q,none⟩ (.int .i64 x.lv.length)) B (.slice (some ⟨g1,0,none⟩) x.aW.length cn) (x.aW.set q x.lv.length) by
    have e:=Eg Zh.out q (.int .i64 x.lv.length);unfold aZ;rw[List.map_set,kK];exact e)
   have q8:=ae (pL yX.out iD.out (by decide) iB);have JC:=ae (Zi.out.kept iB (by simp;omega));have Zk:=ae (AQ.out.kept iB (by simp;omega));have dU:=ae (uD (AB (B:=min B d) G1.out (by omega)) (Cu (B:=min B d) iB (by omega) (by have:=G1.out.size;omega)));have Ef:w.heap.size<(wd.setCell ⟨g1,q,none⟩ (.int .i64 x.lv.length)).heap.size:=Zk.out.lt;have u0:wd.cell? ⟨w.heap.size,0,none⟩=some (.int .i64 t.af):=AQ.out.cell 0;have u1:wd.cell? ⟨w.heap.size,1,none⟩=some (.int .i64 t.h):=AQ.out.cell 1;have u2:wd.cell? ⟨w.heap.size,2,none⟩=some (.int .i64 t.w):=AQ.out.cell 2;have u3:wd.cell? ⟨w.heap.size,3,none⟩=some (.int .i64 t.c):=AQ.out.cell 3;have u4:wd.cell? ⟨w.heap.size,4,none⟩=some (.int .i64 t.zero):=AQ.out.cell 4;have u5:wd.cell? ⟨w.heap.size,5,none⟩=some (.slice ao p cp):=AQ.out.cell 5;have amy:w.heap.size≠g1:=by omega
   have RY:¬w.heap.size=g1:=amy;have DG:w.heap.size<wd.heap.size:=AQ.out.lt;have vz:=ae iB;clear iB Zh yX Zi AQ G1;go_wp2_with fail;refine(Mo t (.slice ao p cp) _ wt).mono ?_;rintro e w3⟨rfl,aU⟩;have tB:(wd.setCell ⟨g1,q,none⟩ (.int .i64 x.lv.length)).grownBy w3 none:=aC (aQ _ _ _) aU;have Zl:=ae (Zj.out.Z tB);have qx:=ae (eY q8.out tB);have Zm:=ae (JC.out.kept tB (by simp));have mV:Hid (aj w3 wd.heap.size 165 #[.int .i64 time,.int .i64 time,.int .i64 0]):=by
    have e:=(aj.bA (wd.setCell ⟨g1,q,none⟩ (.int .i64 x.lv.length)) 165 #[.int .i64 time,.int .i64 time,.int .i64 0]).kept aU (by simp);exact(show aj w3 wd.heap.size 165 _ by simpa using e)
   have Zn:∀g,(Value.slice al x.lv.length cl).ownBlock=some g->B<=g/\g<wd.heap.size:=fun g hg=>by
    have e:=iL q8.out g hg;exact⟨e.1,by simpa using e.2⟩
   have Zo:=ae Zn;clear Zn;have fR:=ae (uD dU.out (AB (B:=min B d) tB (by omega)));have l2:w3.cell? ⟨wd.heap.size,2,none⟩=some (.int .i64 0):=mV.out.cell 2;have f2:=mV.out.free 2;generalize Zp:M.cellsOf t=cq at *;have Hcq:=ae Zp;clear Zp aU tB u0 u1 u2 u3 u4 u5 z1 f1 Zj q8 JC Zk dU;have qS:=bD w3 wd.heap.size 2 (.int .i64 cq);have hdw:d<wd.heap.size:=by omega
   have NF:=ae (pL Zl.out mV.out (by decide) qS);have pb:Hid (pK (w3.setCell ⟨wd.heap.size,2,none⟩ (.int .i64 cq)) B (.slice al x.lv.length cl) x.lv):=by
    refine World.ownsRow.kept qx.out qS ?_
    cases hv:(Value.slice al x.lv.length cl).ownBlock with
    | none=>exact .inl rfl
    | some g=>exact .inr (by intro e;injection e with e;have:=(Zo.out g hv).2;omega)
   have RZ:=ae (Zm.out.kept qS (by simp;omega));have NG:Hid (aj (w3.setCell ⟨wd.heap.size,2,none⟩ (.int .i64 cq)) wd.heap.size 165 #[.int .i64 time,.int .i64 time,.int .i64 cq]):=mV.out.set 2 (.int .i64 cq);have fC:=ae (uD fR.out (Cu (B:=min B d) qS (by omega) (by have:=mV.out.lt;omega)));have Ec:wd.heap.size<(w3.setCell ⟨wd.heap.size,2,none⟩ (.int .i64 cq)).heap.size:=NG.out.lt;clear mV Zm qx Zl qS fR;obtain⟨i0,hi,cP,cQ,cZ⟩:=info_parts Tryz.amw;have Ae:=ae cP;clear cP;go_wp2;clear l2 f2;generalize w3.setCell ⟨wd.heap.size,2,none⟩ (.int .i64 cq)=w4 at *;have c2:w4.cell? ⟨d,2,none⟩=some (.slice al x.lv.length cl):=RZ.out.cell 2;have l0:w4.cell? ⟨wd.heap.size,0,none⟩=some (.int .i64 time):=NG.out.cell 0;have l1:w4.cell? ⟨wd.heap.size,1,none⟩=some (.int .i64 time):=NG.out.cell 1;have l2:w4.cell? ⟨wd.heap.size,2,none⟩=some (.int .i64 cq):=NG.out.cell 2;have hd4:d<w4.heap.size:=by omega
   have amB:Hid (some d≠(Value.slice al x.lv.length cl).ownBlock):=by
    intro e;rcases Jt pb.out with h' | ⟨g,cs,h',-,yV⟩
    ·rw[h'] at e;exact aN e (by simp)
    ·rw[h'] at e;injection e with e;subst e;exact ND yV RZ.out (by decide) rfl
   go_region_law ((refine step_append_lies _ (by rfl) _ _ _ (by rfl) B 165 i0 (.agg #[.int .i64 0,.int .i64 0,.int .i64 0]) 3 24 underlying100 hi Ae.out cQ cZ rfl (by omega) (.slice al x.lv.length cl) x.lv.length (x.lv.flatMap Cm) (by rfl) ((pb.out.alloc _).drew) ⟨w4.heap.size,0,none⟩ 1 1 [.int .i64 time,.int .i64 time,.int .i64 cq] (by rfl) rfl (World.news_of_block (cs:=#[.int .i64 time,.int .i64 time,.int .i64 cq]) (heap_alloc_new w4 _)) (by intro u hu;simp at hu;rcases hu with rfl|rfl|rfl<;>rfl) (by omega) (by unfold maxLen;omega) (by omega) (by simp;omega) (w4.heap.size+1) (by simp) ?_;intro g5 c5 w5 Jo Zq amC Ei;have bq:=aC (aC (aQ w4 _ _) (gE _ _)) Zq;have JE:=RZ.out.kept bq amB.out;have cd5:w5.cell? ⟨d,2,none⟩=some (.slice al x.lv.length cl):=JE.cell 2;have fd5:=JE.free 2))
   all_goals
    have HN5:=ae (oc NF.out pb.out (by decide) bq);have xJ:=bD w5 d 2 (.slice (some ⟨g5,0,none⟩) (x.lv.length+1) c5);have amE:=ae (JE.set 2 (.slice (some ⟨g5,0,none⟩) (x.lv.length+1) c5));have NH:=ae (pL HN5.out JE (by decide) xJ);have NI:=ae (pL Jo JE (by decide) xJ);have iC:Hid (Below (min B d) w4 w5):=by
     rcases hv:(Value.slice al x.lv.length cl).ownBlock with _|g
     ·rw[hv] at bq;exact AB bq (by omega)
     ·rw[hv] at bq;exact Cu bq (by have:=(Zo.out g hv).1;omega) (by omega)
    have kI:=ae (uD (uD fC.out iC.out) (Cu (B:=min B d) xJ (by omega) (by have:=bq.size;omega)));clear xJ bq Jo Zq amC c2 l0 l1 l2;go_wp2;go_end0;refine⟨rfl,?_,kI.out⟩;rw[Hcq.out,He.out];exact⟨_,_,_,_,by have e:=amE.out;simpa using e,by have e:=NH.out;unfold aZ;simpa using e,by unfold pK;have e:=NI.out;simpa[Cm] using e⟩
theorem amF{os:List M.Op}{i k:Nat}{o:M.Op}(h:os[k]?=some o)(hk:k≠i):(os.take (k+1)).eraseIdx i=(os.take k).eraseIdx i++[o]:=by
 have hl:=M.bP h;rw[H.kd h];by_cases c:i<k
 ·rw[List.eraseIdx_append_of_lt_length (by rw[xE];omega)]
 ·rw[List.eraseIdx_of_length_le (by simp;omega),List.eraseIdx_of_length_le (by simp;omega)]
theorem amG{os:List M.Op}{i:Nat}{o:M.Op}(h:os[i]?=some o):(os.take (i+1)).eraseIdx i=(os.take i).eraseIdx i:=by
 have hl:=M.bP h;rw[H.kd h,List.eraseIdx_append_of_length_le (by simp;omega),List.eraseIdx_of_length_le (l:=os.take i) (by simp;omega)];have:i-(os.take i).length=0:=by simp;omega
 rw[this];simp
theorem amH(B:Nat)(a:Option Addr)(n c:Nat)(os:List M.Op)(i:Nat)(w:World)(h:jl w B (.slice a n c) os)(hn:os.length<=255)(_hi':i<=255) :
  Calls prog 145 #[.slice a n c,.int .i64 i] w fun e w'=>(∃ao c',e=.returned (.slice ao (os.eraseIdx i).length c')/\j4 w' w.heap.size B (.slice ao (os.eraseIdx i).length c') (os.eraseIdx i))/\w.grownBy w' none:=by
 obtain⟨i0,hi,cP,cQ,cZ⟩:=info_parts Tryz.L4;have Ae:=ae cP;clear cP;obtain rfl:=h.len;have HO:=ae h;clear h;go_enter func145,ntmps145;go_wp2;go_loopw[5,10] (fun v j wr=>∃k:Nat,k<=os.length/\j=.int .i64 k/\j4 wr w.heap.size B v ((os.take k).eraseIdx i)/\w.grownBy wr none) (fun _ j _=>os.length-(intOf j).toNat)
 case atStart=>exact⟨0,bK _,rfl,j4.nil _ _ _,fZ _ _⟩
 case round=>
  obtain⟨k,hk,rfl,kT,aF⟩:=hrel;have Ft:=aF.size;by_cases aJ:k<os.length
  ·obtain⟨o,ho⟩:∃o,os[k]?=some o:=⟨_,aS aJ⟩
   obtain⟨g,ao,p,cp,rfl,gQ,-,tr,hR⟩:=(HO.out.Z aF).get k o ho;have iX:((os.take k).eraseIdx i).length<=k:=by
    have:=List.length_eraseIdx_le (os.take k) i;rw[xE] at this;omega
   have JF:=ae kT;have bH:=ae aF;have AM:=ae tr;have lC:=ae (aj.bA wr 142 (aO o (.slice ao p cp)));have dN:=ae (aQ wr (.cells (aO o (.slice ao p cp)) 142) none);clear kT aF tr;by_cases vV:k=i
   ·have HS:=ae (amG (os:=os) (i:=i) (by rw[<-vV];exact ho))
    have amI:((k:Int)!=(i:Int))=false:=by simp[vV]
    have JG:=ae vV;clear ho vV;go_wp2_with (first|(refine wpList_load_mid rfl 142 _ rfl g (k*16) rfl (aO o (.slice ao p cp)).toList _ hR underlying142 rfl Tryz.de ?_)|(refine aaY rfl 142 _ _ rfl wr.heap.size (aO o (.slice ao p cp)) rfl rfl 142 (aR 0 0 0 0 0 0 0 0 false (.slice none 0 0) 0 0 0 0 0 0) (aj.bA wr 142 _) Tryz.de rfl (oe ..) ?_;rw[World.setRow_alloc_new];generalize wr.alloc (.cells (aO o (.slice ao p cp)) 142)=w3 at *));go_roundw
    case rel=>exact⟨k+1,by omega,by go_num,by rw[JG.out,HS.out];have e:=JF.out.Z dN.out;rw[JG.out] at e;exact e,aC bH.out dN.out⟩
    case measure=>simp[intOf];omega
   ·have HS:=ae (amF ho vV)
    have amI:((k:Int)!=(i:Int))=true:=by simp;omega
    obtain⟨L,HL⟩:∃L,Hid ((os.take k).eraseIdx i=L):=⟨_,rfl⟩;rw[HL.out] at JF HS iX;clear ho vV;go_wp2_with (first|(refine wpList_load_mid rfl 142 _ rfl g (k*16) rfl (aO o (.slice ao p cp)).toList _ hR underlying142 rfl Tryz.de ?_)|(refine aaY rfl 142 _ _ rfl wr.heap.size (aO o (.slice ao p cp)) rfl rfl 142 (aR 0 0 0 0 0 0 0 0 false (.slice none 0 0) 0 0 0 0 0 0) (aj.bA wr 142 _) Tryz.de rfl (oe ..) ?_;rw[World.setRow_alloc_new];generalize wr.alloc (.cells (aO o (.slice ao p cp)) 142)=w3 at *)|(refine dj rfl 142 _ rfl wr.heap.size rfl 142 #[.int .i64 o.af,.int .i64 o.a,.int .i64 o.b,.int .i64 o.aP,.int .i64 o.bC,.int .i64 o.to,.int .i64 o.size,.int .i64 o.aE,.bool o.same,.slice ao p cp,.int .i64 o.lo,.int .i64 o.hi,.int .i64 o.aT,.int .i64 o.below,.int .i64 o.left,.int .i64 o.right] (0,0) _ lC.out underlying142 rfl Tryz.de ?_;refine Js ?_));refine ae ?_;obtain⟨ps,q1,q2,q3⟩:=JF.out.Z dN.out;have DG:=dN.out.size;go_wp2_with (at_builtin;refine nD _ rfl _ _ 137 rfl w.heap.size 142 i0 (.agg (aR 0 0 0 0 0 0 0 0 false (.slice none 0 0) 0 0 0 0 0 0)) 16 144 underlying137 hi Ae.out cQ cZ rfl (by decide) _ _ _ rfl (q2.alloc _) ⟨w3.heap.size,0,none⟩ 1 1 (aO o (.slice ao p cp)).toList rfl rfl ?c1 ?c2 ?c3 ?c4 ?c5 ?_)
    case c1=>exact kb w3 142 (aO o (.slice ao p cp))
    case c2=>intro u hu;simp[aO] at hu;rcases hu with rfl|rfl|rfl|rfl|rfl|rfl|rfl|rfl|rfl|rfl|rfl|rfl|rfl|rfl|rfl|rfl<;>rfl
    case c3=>unfold maxLen;omega
    case c4=>omega
    case c5=>simp;omega
    intro v' w4 dC cR _;have bq:=aC (aQ w3 _ _) cR;have Ab:=j4.py q1 q2 q3 (eY AM.out dN.out) bq dC;have dR:=mJ q2;have sS:w.grownBy w4 none:=l8 (aC bH.out dN.out) bq dR;have NJ:=ae Ab;have fC:=ae sS;clear dC cR bq q2 q3 Ab sS dR;go_wp2;go_roundw
    case rel=>exact⟨k+1,by omega,by go_num,by rw[HS.out];exact NJ.out,fC.out⟩
    case measure=>simp[intOf];omega
  ·obtain rfl:k=os.length:=by omega
   rw[jm] at kT;obtain⟨ao,c2,rfl⟩:=kT.bT;have JF:=ae kT;have bH:=ae aF;clear kT aF;go_wp2;go_ret;exact⟨⟨ao,c2,rfl,JF.out⟩,bH.out⟩
theorem Zr{md mk:M.Md}{j:Nat}(h:H.rQ (j+1) mk=H.drop md):H.rQ j (H.kF mk j)=H.drop md:=h
theorem amJ(m:Nat)(md:M.Md)(w:World)(h:cN w m md)(iq:md.ag.length<=255)(kl:md.aK.length<=255) :
  Calls prog 102 #[.pointer (some ⟨m,0,none⟩)] w fun e w'=>e=.returned (.tuple #[])/\cN w' m (H.drop md)/\Below m w w':=by
 have HM:=ae h;obtain⟨a1,c1,a2,c2,a3,c3,hB,hT,hO,hU⟩:=h;have q1:w.cell? ⟨m,1,none⟩=some (.slice a2 md.ag.length c2):=hB.cell 1;have qk:=hB.lt;clear hB hT hO hU;go_enter func102,ntmps102;go_wp2;clear q1;go_loopw[2] (fun i wr=>∃(j:Nat) (mk:M.Md),i=.int .i64 ((j:Int)-1)/\j<=mk.ag.length/\mk.ag.length<=255/\Hid (mk.aK.length<=255)/\Hid (H.rQ j mk=H.drop md)/\cN wr m mk/\Below m w wr) (fun i _=>(intOf i+1).toNat)
 case atStart=>exact⟨md.ag.length,md,rfl,bj _,iq,kl,rfl,HM.out,Below.refl _ _⟩
 case round=>
  obtain⟨j,mk,rfl,hj,tC,FO,HD,NK,bV⟩:=hrel
  cases j with
  | zero=>
   have q7:=ae NK;have eK:=ae bV;have HD':=ae (show mk=H.drop md from HD.out);clear NK bV;go_wp2;go_end0;exact⟨rfl,by rw[<-HD'.out];exact q7.out,eK.out⟩
  | succ j=>
   obtain⟨o,ho⟩:∃o,mk.ag[j]?=some o:=⟨_,aS (by omega)⟩;have q7:=ae NK;have eK:=ae bV;obtain⟨a1,c1,a2,c2,a3,c3,hB,hT,hO,hU⟩:=NK;obtain⟨g,ao,p,cp,rfl,gQ,-,tr,hR⟩:=hO.get j o ho;have q1:wr.cell? ⟨m,1,none⟩=some (.slice (some ⟨g,0,none⟩) mk.ag.length c2):=hB.cell 1;have d5:wr.cell? ⟨g,j*16+5,none⟩=some (.int .i64 o.to):=hR 5 _ rfl;have HO:=ae hO;have qk:=hB.lt;have e1:(((j+1:Nat):Int)-1)=(j:Int):=by omega
   rw[e1];have HC:=ae (RQ m mk o.to wr q7.out tC FO.out);clear hB hT hO hU bV;go_wp2_with fail;refine HC.out.mono ?_;rintro e w1⟨rfl,aH⟩;have q2:w1.cell? ⟨m,1,none⟩=some (.slice (some ⟨g,0,none⟩) mk.ag.length c2):=aG aH q1;have nN:=ae (q7.out.Z aH);have CB:=ae (HO.out.Z aH);have NL:m<w1.heap.size:=by have:=aH.size;omega
   have nF:=ae (uD eK.out (AB aH (by omega)));clear aH q1 d5 HC hR;by_cases hu:H.cJ mk o.to=0
   ·have HE:=ae (H.YI ho hu)
    have HL:=ae (H.YH mk j);have uA:((H.cJ mk o.to:Int)==0)=true:=by simp[hu]
    clear ho hu;generalize H.cJ mk o.to=un at *;have HC:=ae (amH (m+1) (some ⟨g,0,none⟩) mk.ag.length c2 mk.ag j w1 CB.out tC (by omega));go_wp2_with fail;refine HC.out.mono ?_;rintro e w2⟨⟨dO,R0,rfl,vW⟩,aM⟩;have JH:m<w2.heap.size:=by have:=aM.size;omega
    have JD:=ae (cN.RU (nN.out.Z aM) (vW.ag (by omega)));have hf:w2.frozen? ⟨m,1,none⟩=false:=by obtain⟨_,_,_,_,_,_,hB,-⟩:=nN.out.Z aM;exact hB.free 1
    have q3:w2.cell? ⟨m,1,none⟩=some (.slice (some ⟨g,0,none⟩) mk.ag.length c2):=aG aM q2;have FN:=ae (uD nF.out (uD (AB aM (by omega)) (Cu (bD w2 m 1 (.slice dO (mk.ag.eraseIdx j).length R0)) (bj m) (by omega))));have Ek:=ae (Zr HD.out);have HE2:Hid (H.kF mk j=⟨mk.au,mk.ag.eraseIdx j,mk.aK⟩):=HE.out;clear aM vW q2 HC;rw[HE2.out] at Ek HL;generalize mk.ag.eraseIdx j=L at *;go_wp2;go_roundw
    case rel=>exact⟨j,⟨mk.au,L,mk.aK⟩,by go_num,by have:=HL.out;simp at this ⊢;omega,by have:=HL.out;simp at this ⊢;omega,FO.out,Ek.out,JD.out,FN.out⟩
    case measure=>simp[intOf];try omega
   ·have HE:=ae (H.YJ ho hu)
    have uA:((H.cJ mk o.to:Int)==0)=false:=by simp[hu]
    have Ek:=ae (Zr HD.out);rw[HE.out] at Ek;clear ho hu;generalize H.cJ mk o.to=un at *;go_wp2;go_roundw
    case rel=>exact⟨j,mk,by go_num,by omega,tC,FO.out,Ek.out,nN.out,nF.out⟩
    case measure=>simp[intOf];try omega
theorem amM(m:Nat)(md:M.Md)(w:World)(h:cN w m md)(IU:md.au.length<=255)(iq:md.ag.length<=255)(kl:md.aK.length<=255) :
  Calls prog 104 #[.pointer (some ⟨m,0,none⟩)] w fun e w'=>e=.returned (.tuple #[])/\cN w' m (H.mP md)/\Below m w w':=by
 obtain⟨a1,c1,a2,c2,a3,c3,hB,hT,hO,hU⟩:=h;have q0:w.cell? ⟨m,0,none⟩=some (.slice a1 md.au.length c1):=hB.cell 0;have qk:=hB.lt;have HB:=ae hB;have HT:=ae hT;have HO:=ae hO;have HU:=ae hU;clear hB hT hO hU;go_enter func104,ntmps104;go_wp2;clear q0;go_loopw[9] (fun i wr=>∃k:Nat,k<=md.au.length/\i=.int .i64 k/\ir wr (m+1) (.slice a1 md.au.length c1) (H.qw md k)/\w.grownBy wr (Value.slice a1 md.au.length c1).ownBlock) (fun i _=>md.au.length-(intOf i).toNat)
 case atStart=>exact⟨0,bK _,rfl,by rw[H.al0];exact HT.out,fZ _ _⟩
 case round=>
  obtain⟨k,hk,rfl,lL,aF⟩:=hrel;have Zs:(H.qw md k).length=md.au.length:=by unfold H.qw;rw[List.length_mapIdx]
  have q7:=ae (YR HB.out HT.out HO.out HU.out Zs lL aF);have vX:=ae lL;have bH:=ae aF;have Ft:=aF.size;clear aF;by_cases aJ:k<md.au.length
  ·obtain⟨t,ht⟩:∃t,md.au[k]?=some t:=⟨_,aS aJ⟩
   have HC:=ae (RQ m ⟨H.qw md k,md.ag,md.aK⟩ k wr q7.out iq kl);have HU:Hid (H.cJ ⟨H.qw md k,md.ag,md.aK⟩ k=H.cJ md k):=rfl;rw[HU.out] at HC;obtain⟨g,ao,m',cp,rfl,-,CC,-,-,-,-,-,-,d5⟩:=lL.get k t (H.YL ht);clear lL;go_wp2_with fail;refine HC.out.mono ?_;rintro e w1⟨rfl,aH⟩;have vY:=ae (vX.out.Z aH);have dN:=ae (aC bH.out (pr aH));have R4:=aG aH d5;have re:=q7.out.Z aH;obtain⟨b1,e1,_,_,_,_,amN,-⟩:=re;have Zt:=HB.out.kept (aC bH.out (pr aH)) (by intro e;simp[Value.ownBlock] at e;omega);have q1:w1.cell? ⟨m,0,none⟩=some (.slice (some ⟨g,0,none⟩) md.au.length c1):=Zt.cell 0;clear aH d5 HC amN Zt;by_cases hu:H.cJ md k=0
   ·have HS:=ae (H.al4 ht hu)
    have uA:((H.cJ md k:Int)==0)=true:=by simp[hu]
    obtain⟨ps,r1,r2,r3⟩:=vY.out;obtain⟨g',dY,e',-,-,yV,-⟩:=xH r2 (by rw[Zs];omega);simp only[kj,oP,and_true] at e';subst e';have f5:=yV.free (k*6+5);have HP:=ae (vY.out.put (H.YL ht) 5 (by decide) (.slice none 0 0) (fun _=>.slice none 0 0) (t':={ t with data:=[] }) (fun _=>rfl) (fun _ _=>aZ.nil _ _));have dU:=ae (aC dN.out (bD w1 g (k*6+5) (.slice none 0 0)));clear r2 r3 yV hu ht;generalize H.cJ md k=un at *;go_wp2;go_roundw
    case rel=>exact⟨k+1,by omega,by go_num,by rw[HS.out];exact HP.out,dU.out⟩
    case measure=>simp[intOf];omega
   ·have HS:=ae (H.al5 hu)
    have uA:((H.cJ md k:Int)==0)=false:=by simp[hu]
    clear hu ht;generalize H.cJ md k=un at *;go_wp2;go_roundw
    case rel=>exact⟨k+1,by omega,by go_num,by rw[HS.out];exact vY.out,dN.out⟩
    case measure=>simp[intOf];omega
  ·obtain rfl:k=md.au.length:=by omega
   have HF:=ae (H.al3 md);have mV:=ae (YT HT.out qk bH.out);clear lL;go_wp2;go_end0;exact⟨rfl,by rw[<-HF.out];exact q7.out,mV.out⟩
end Go.Proofs.YtcnhfffgbamonaaGreat
