import Derived.Test.YtcnhfffgbamonabGreatZ19
set_option maxRecDepth 100000
set_option maxHeartbeats 6400000
namespace Go.Proofs.YtcnhfffgbamonabGreat
open Go.Proofs.Tryz
open Go.RowKit
structure Fr(S:Nat->Prop)(w w':World):Prop where
 os:w'.os=w.os
 tape:w'.tape=w.tape
 output:w'.output=w.output
 size:w.heap.size<=w'.heap.size
 block:∀k,k<w.heap.size->¬S k->w'.heap[k]?=w.heap[k]?
theorem Fr.refl(S:Nat->Prop)(w:World):Fr S w w:=⟨rfl,rfl,rfl,bj _,fun _ _ _=>rfl⟩
theorem Fr.uw{w w':World}{row:Option Nat}(h:w.grownBy w' row):Fr (fun k=>some k=row) w w':=⟨h.os,h.tape,h.output,h.size,fun k hk hn=>h.block k hk hn⟩
theorem Fr.mono{S S':Nat->Prop}{w w':World}(h:Fr S w w')(hS:∀k,k<w.heap.size->S k->S' k):Fr S' w w':=⟨h.os,h.tape,h.output,h.size,fun k hk hn=>h.block k hk fun hs=>hn (hS k hk hs)⟩
theorem Fr.trans{S:Nat->Prop}{w w1 w2:World}(h:Fr S w w1)(k:Fr S w1 w2):Fr S w w2:=
 ⟨k.os.trans h.os,k.tape.trans h.tape,k.output.trans h.output,jK h.size k.size,fun i hi hn=>(k.block i (qB hi h.size) hn).trans (h.block i hi hn)⟩
theorem Fr.iI{S:Nat->Prop}{w w1 w2:World}{row:Option Nat}(h:Fr S w w1)(k:w1.grownBy w2 row)(hr:∀g,row=some g->w.heap.size<=g\/S g):Fr S w w2:=
 ⟨k.os.trans h.os,k.tape.trans h.tape,k.output.trans h.output,jK h.size k.size,fun i hi hn=>(k.block i (qB hi h.size) (fun e=>by rcases hr i e.symm with h' | h';omega;exact hn h')).trans (h.block i hi hn)⟩
theorem Fr.gF{S:Nat->Prop}{w w':World}{b:Nat}{t:TypeId}{cs:Array Value}(h:Fr S w w')(hB:aj w b t cs)(hS:¬S b):aj w' b t cs:=by
 have hl:=hB.lt;unfold aj at hB ⊢;rw[h.block b hl hS];exact hB
theorem Fr.jO{S:Nat->Prop}{w w':World}{base size n:Nat}{e:TypeId}{v:Value}{xs:List Value}(h:Fr S w w')(ho:w.ownsRow base e size v n xs)(hS:∀g,v.ownBlock=some g->¬S g):w'.ownsRow base e size v n xs:=by
 refine⟨ho.1,?_⟩;rcases ho.2 with h' | ⟨g,cap,dV,rfl,hb,hg,hr⟩
 ·exact .inl h'
 ·refine .inr ⟨g,cap,dV,rfl,hb,?_,hr⟩
  have hl:g<w.heap.size:=by
   rcases cF g w.heap.size with aK|AL
   ·exact aK
   ·rw[Array.getElem?_eq_none AL] at hg;cases hg
  rw[h.block g hl (hS g rfl)];exact hg
theorem Fr.gr{S:Nat->Prop}{w0 w w':World}(h:w0.grownBy w none)(k:Fr S w w')(hS:∀g,S g->w0.heap.size<=g):w0.grownBy w' none:=
 ⟨k.os.trans h.os,k.tape.trans h.tape,k.output.trans h.output,jK h.size k.size,fun i hi eF=>(k.block i (qB hi h.size) (fun e=>by have:=hS i e;omega)).trans (h.block i hi eF)⟩
theorem iJ{w w':World}{base size n:Nat}{e:TypeId}{v:Value}{xs:List Value}{row:Option Nat}(ho:w.ownsRow base e size v n xs)(hg:w.grownBy w' row)(eF:∀g,v.ownBlock=some g->some g≠row):w'.ownsRow base e size v n xs:=
 (Fr.uw hg).jO ho fun g h e=>eF g h e
abbrev LW(w:World)(b:Nat)(ps ls lw bN n ex Cu ts mark os:Value):Prop:=aj w b 58 #[ps,ls,lw,bN,n,ex,Cu,ts,mark,os]
theorem anc(b base:Nat)(ps v1 v2 bN nn ex Cu ts mark os:Value)(n1 n2:Nat)(xs ys:List Value)(ao:Option Addr)(n c:Nat)(l:List Int)(w:World)(hB:LW w b ps v1 v2 bN nn ex Cu ts mark os)
  (h1:w.ownsRow base 32 1 v1 n1 xs) (h2:w.ownsRow base 32 1 v2 n2 ys) (yJ:v1.ownBlock≠some b) (BU:v2.ownBlock≠some b) (xj:∀g,v1.ownBlock=some g->v2.ownBlock≠some g) (yK:base<=w.heap.size)
  (hS:Sl w (.slice ao n c) l) (hl:l.length<=1000000000) (iq:n1<=1000000000) (j9:n2<=1000000000) :
  Calls prog 70 #[.pointer (some ⟨b,0,none⟩),.slice ao n c] w fun e w'=>e=.returned (.tuple #[])/\∃g1 c1 g2 c2,
   LW w' b ps (.slice (some ⟨g1,0,none⟩) (n1+1) c1) (.slice (some ⟨g2,0,none⟩) (n2+1) c2) bN nn ex Cu ts mark os /\
   w'.ownsRow base 32 1 (.slice (some ⟨g1,0,none⟩) (n1+1) c1) (n1+1) (xs++[.slice ao n c])/\w'.ownsRow base 32 1 (.slice (some ⟨g2,0,none⟩) (n2+1) c2) (n2+1) (ys++[.slice (some ⟨w.heap.size,0,none⟩) l.length l.length]) /\
   aj w' w.heap.size 3 (l.map (Value.int .i64)).toArray/\(v1.ownBlock=some g1\/w.heap.size<g1)/\(v2.ownBlock=some g2\/w.heap.size<g2)/\g1≠b/\g2≠b/\g1≠g2/\Fr (fun k=>k=b\/v1.ownBlock=some k\/v2.ownBlock=some k) w w':=by
 have dh:=hB.lt;have o1:∀g,v1.ownBlock=some g->g<w.heap.size:=fun g hg=>(jd h1 g hg).2;have o2:∀g,v2.ownBlock=some g->g<w.heap.size:=fun g hg=>(jd h2 g hg).2;obtain⟨i0,hi,cQ,cR,cZ⟩:=info_parts Tryz.Fv;go_enter func70,ntmps70;go_wp2_with fail;refine(Y8 ao n c l w hS hl).mono ?_;rintro e w1⟨rfl,hC,Fx⟩;have Sa:=Fx.size;have km:=hC.lt;have B1:=hB.kept Fx (by simp);have c1:w1.cell? ⟨b,1,none⟩=some v1:=B1.cell 1;have O1:=ae (iJ h1 Fx (by simp));have O2:=ae (iJ h2 Fx (by simp));have nj:=ae B1;have jk:=ae hC;have F1:=ae (show Fr (fun k=>k=b\/v1.ownBlock=some k\/v2.ownBlock=some k) w w1 from (Fr.uw Fx).mono (fun k _ h=>by cases h));have Hb:=ae (And.intro yJ (And.intro BU xj));have Ho:=ae (And.intro o1 o2);clear B1 hC Fx hB h1 h2 yJ BU xj hS o1 o2;go_wp2_with (at_builtin;refine wpList_append_lies _ rfl _ _ 38 rfl base 32 i0 (.slice none 0 0) 1 24 underlying38 hi cQ cR cZ rfl (by decide) _ _ _ rfl (lP O1.out _) ⟨w1.heap.size,0,none⟩ 1 1 [.slice ao n c] rfl rfl ?c1 ?c2 ?c3 ?c4 ?c5 ?c6 (w1.heap.size+1) ?c7 ?_)
 case c1=>exact kb w1 32 #[.slice ao n c]
 case c2=>intro u hu;simp at hu;subst hu;rfl
 case c3=>decide
 case c4=>unfold maxLen;omega
 case c5=>omega
 case c6=>simp;omega
 case c7=>simp
 intro g1 yL s1 cB cV jA aK;have bC:w1.grownBy s1 v1.ownBlock:=aC (aQ _ _ _) cV;have Fy:g1≠b:=by
  rcases jA with h|h
  ·intro e;subst e;exact Hb.out.1 h
  ·omega
 have Zq:v1.ownBlock=some g1\/w.heap.size<g1:=jA.imp id (fun h=>by omega);have B2:LW s1 b ps v1 v2 bN nn ex Cu ts mark os:=nj.out.kept bC (fun e=>Hb.out.1 e.symm);have C2:=ae (jk.out.kept bC (fun e=>by have:=Ho.out.1 _ e.symm;omega));have P2:=ae (iJ O2.out bC (fun g hg e=>Hb.out.2.2 g e.symm hg));have F2:=ae (F1.out.iI bC (fun g hg=>.inr (.inr (.inl hg))));have b1:s1.cell? ⟨b,1,none⟩=some v1:=B2.cell 1;have f1:=B2.free 1;have B3:LW (s1.setCell ⟨b,1,none⟩ (.slice (some ⟨g1,0,none⟩) (n1+1) yL)) b ps (.slice (some ⟨g1,0,none⟩) (n1+1) yL) v2 bN nn ex Cu ts mark os:=B2.set 1 (.slice (some ⟨g1,0,none⟩) (n1+1) yL);have jX:=bD s1 b 1 (.slice (some ⟨g1,0,none⟩) (n1+1) yL);have Q1:=ae (iJ cB jX (fun g hg e=>by have h1:some g1=some g:=hg;injection h1 with h1;injection e with e;exact Fy (h1.trans e)));have Q2:=ae (iJ P2.out jX (fun g hg e=>by injection e with e;subst e;exact Hb.out.2.1 hg));have C3:=ae (C2.out.kept jX (by simp;omega));have F3:=ae (F2.out.iI jX (fun g hg=>.inr (.inl (by injection hg with hg;exact hg.symm))));have b2:(s1.setCell ⟨b,1,none⟩ (.slice (some ⟨g1,0,none⟩) (n1+1) yL)).cell? ⟨b,2,none⟩=some v2:=B3.cell 2;have fZ:=ae B3;have AM:=bC.size;have Cv:=ae (And.intro Fy (And.intro Zq jA));clear cB cV bC B2 B3 jX C2 P2 F2 O1 O2 nj jk F1 c1 jA Fy Zq;go_wp2_with (at_builtin;refine wpList_append_lies _ rfl _ _ 38 rfl base 32 i0 (.slice none 0 0) 1 24 underlying38 hi cQ cR cZ rfl (by decide) _ _ _ rfl (lP Q2.out _) ⟨s1.heap.size,0,none⟩ 1 1 [.slice (some ⟨w.heap.size,0,none⟩) l.length l.length] rfl rfl ?c1 ?c2 ?c3 ?c4 ?c5 ?c6 (s1.heap.size+1) ?c7 ?_)
 case c1=>
  have e:=kb (s1.setCell ⟨b,1,none⟩ (.slice (some ⟨g1,0,none⟩) (n1+1) yL)) 32 #[.slice (some ⟨w.heap.size,0,none⟩) l.length l.length];rw[yi] at e;exact e
 case c2=>intro u hu;simp at hu;subst hu;rfl
 case c3=>decide
 case c4=>unfold maxLen;omega
 case c5=>omega
 case c6=>simp;omega
 case c7=>simp
 intro g2 EY s3 Zr Zs Jv kZ;have Jw:(s1.setCell ⟨b,1,none⟩ (.slice (some ⟨g1,0,none⟩) (n1+1) yL)).grownBy s3 v2.ownBlock:=aC (aQ _ _ _) Zs;have Sb:g2≠b:=by
  rcases Jv with h|h
  ·intro e;subst e;exact Hb.out.2.1 h
  ·omega
 have Zt:v2.ownBlock=some g2\/w.heap.size<g2:=Jv.imp id (fun h=>by omega);have Zu:g1≠g2:=by
  rcases Cv.out.2.2 with h|h
  ·have l1:=Ho.out.1 _ h
   rcases Jv with h' | h'
   ·intro e;subst e;exact Hb.out.2.2 _ h h'
   ·omega
  ·rcases Jv with h' | h'
   ·have l2:=Ho.out.2 _ h'
    omega
   ·omega
 have B4:LW s3 b ps (.slice (some ⟨g1,0,none⟩) (n1+1) yL) v2 bN nn ex Cu ts mark os:=fZ.out.kept Jw (fun e=>Hb.out.2.1 e.symm);have C4:=C3.out.kept Jw (fun e=>by have:=Ho.out.2 _ e.symm;omega);have R1:=iJ Q1.out Jw (fun g hg e=>by
  injection hg with hg;subst hg;rcases Cv.out.2.2 with h|h
  ·exact Hb.out.2.2 _ h e.symm
  ·have:=Ho.out.2 _ e.symm
   have h':g1=w1.heap.size+1:=h;simp only at this;omega)
 have F4:=F3.out.iI Jw (fun g hg=>.inr (.inr (.inr hg)));have b3:s3.cell? ⟨b,2,none⟩=some v2:=B4.cell 2;have f3:=B4.free 2;have jX:=bD s3 b 2 (.slice (some ⟨g2,0,none⟩) (n2+1) EY);have B5:LW (s3.setCell ⟨b,2,none⟩ (.slice (some ⟨g2,0,none⟩) (n2+1) EY)) b ps (.slice (some ⟨g1,0,none⟩) (n1+1) yL) (.slice (some ⟨g2,0,none⟩) (n2+1) EY) bN nn ex Cu ts mark os:=B4.set 2 (.slice (some ⟨g2,0,none⟩) (n2+1) EY);have Fy:=Cv.out.1;have K1:=ae (iJ R1 jX (fun g hg e=>by have h1:some g1=some g:=hg;injection h1 with h1;injection e with e;exact Fy (h1.trans e)));have K2:=ae (iJ Zr jX (fun g hg e=>by have h1:some g2=some g:=hg;injection h1 with h1;injection e with e;exact Sb (h1.trans e)));have C5:=ae (C4.kept jX (by simp;omega));have F5:=ae (F4.iI jX (fun g hg=>.inr (.inl (by injection hg with hg;exact hg.symm))));have ow:=ae B5;have dZ:=ae (And.intro Sb (And.intro Zt Zu));clear Zr Zs Jw Jv B4 C4 R1 F4 B5 jX Q1 Q2 C3 F3 fZ Sb Zt Zu Fy b1 f1 b2;go_wp2;go_end0;exact⟨rfl,g1,yL,g2,EY,ow.out,K1.out,K2.out,C5.out,Cv.out.2.1,dZ.out.2.1,Cv.out.1,dZ.out.1,dZ.out.2.2,F5.out⟩
theorem Zv{md:M.Md}(h1:O.iN md){ins:List (List Int)}(hi:D.jM md ins=true):∀l∈D.run md ins,l.length<=512:=by
 intro l hl;have S:=H.Mw h1 hi;rw[<-O.WH h1 hi] at hl;obtain⟨n,hn,rfl⟩:=List.mem_map.mp hl;obtain⟨av,k2⟩:=S.aJ n hn;have e1:=S.sN n av.1 av.2.1 k2;have e2:=(S.kN n av.1 av.2.1).me;omega
theorem Zw(p:Nat)(md:M.Md)(a:Option Addr)(n c:Nat)(ins:List (List Int))(w:World)(hP:Pl w p md)(hI:rQ w (.slice a n c) ins)(hl:∀l∈ins,l.length<=9223372036854775807)(hn:ins.length<=9223372036854775807) :
  Calls prog 21 #[.pointer (some ⟨p,0,none⟩),.slice a n c] w fun e w'=>w.grownBy w' none /\
   ((D.jM md ins=false/\e=.returned (.tuple #[.slice none 0 0,.int .i64 7])) \/
    (D.jM md ins=true/\∃G gs,e=.returned (.tuple #[.slice (some ⟨G,0,none⟩) md.aJ.length md.aJ.length,.int .i64 0])/\NB w' w.heap.size G gs (D.run md ins))):=by
 obtain rfl:=hI.len;obtain⟨j0,hj,vL,p9,vM⟩:=info_parts Tryz.oH;have HP:=ae hP;have HI:=ae hI;have HC:=ae (amV p md a ins.length c ins w hP hI hl hn);have RZ:=hP;obtain⟨m,an,cn,ab,cb,-,-,hB,hM,-,-,-,h1⟩:=RZ;have q0:w.cell? ⟨p,0,none⟩=some (.pointer (some ⟨m,0,none⟩)):=hB.cell 0;have Q0:=ae q0;have HM:=ae hM;have H1:=ae h1;have s8:=hB.lt;clear hB hM h1 hP hI hl;go_enter func21,ntmps21;go_wp2_with fail;refine HC.out.mono ?_;rintro e w1⟨rfl,rfl⟩;clear HC
 cases hh:D.jM md ins with
 | false=>
  have Hh:=ae hh;clear hh;go_wp2
  go_ret2
  exact⟨gL _ _,.inl ⟨Hh.out,rfl⟩⟩
 | true=>
  have Hh:=ae hh;have S:=(H.Mw H1.out hh).jD;have A:=H.Fg S;have HA:Hid (H.Al (pM md) (O.fK md ins) (H.fN (pM md)) (pD md) (pB md)):=A;have Zx:Hid (H.DM (pM md) (O.fK md ins) ins):=(H.aj1 H1.out hh).kept (H.Xh (H.Mw H1.out hh));have Sd:Hid ((pM md).aJ.map (D.bW (O.fK md ins))=D.run md ins):=H.aj2 H1.out hh;have mn:=ae (show ins.length=H.fN (pM md) by
   rw[Cp H1.out];unfold D.jM at hh;rw[fh,beq_iff_eq] at hh;have:=congrArg List.length hh.1
   rwa [jh] at this)
  have awS:=(AD H1.out).2.2.2.2;have iq:(pM md).au.length<=24:=S.nt;have j9:(pM md).ag.length<=16:=S.no;have Zy:0<=H.gR (pB md)/\H.gR (pB md)<=2000000:=QW (AD H1.out).1 _;have ane:H.gR (pB md)<=60000:=by
   have e1:=A.L.sum;have hs:∀(l:List H.Bf),(∀b∈l,0<=b.c/\b.c<=512)->0<=H.sumC l/\H.sumC l<=512*(l.length:Int):=by
    intro l
    induction l with
    | nil=>intro _;simp[H.sumC]
    | cons x l ih=>
     intro h;have h1:=h x pq;have h2:=ih fun b hb=>h b (sL _ hb);simp only[H.sumC,qe];omega
   have e2:=hs (pB md) fun b hb=>by
    obtain⟨i,hi⟩:=mM hb;have fC:i<(pD md).lv.length:=by rw[<-show(pB md).length=(pD md).lv.length from A.L.len];exact M.bP hi
    obtain⟨-,f2,f3,-⟩:=A.gE fC;have g2:1<=b.c:=by rw[<-getD_some (d:=H.aV) hi];exact f2
    have g3:b.c<=512:=by rw[<-getD_some (d:=H.aV) hi];exact f3
    omega
   have e3:=(AD H1.out).2.2.1;have e4:H.gR (pB md)<=H.sumC (pB md):=e1;omega
  clear hh S A;go_wp2_with fail;refine(Y4 p md w1 HP.out).mono ?_;rintro e w2⟨rfl,aM⟩;obtain⟨E,hE⟩:=fR Zy.1;have HE:=ae hE;rw[hE];have hE1:E<=60000:=by omega
  have dZ:=ae aM;clear aM hE Zy ane;go_wp2_with (at_make;refine pU _ rfl _ _ 32 rfl w2.heap.size 3 j0 (.int .i64 0) 1 underlying32 hj vL p9 _ _ _ _ E rfl rfl rfl rfl ?c1 ?c2 ?c3 ?_)
  case c1=>rw[vM];omega
  case c2=>unfold maxLen;omega
  case c3=>exact bj _
  intro w3 cB aU;have iA:=wR cB;have qE:=dZ.out.size;have Jn:=aU.size;have bm:=aQ w3 (.cells #[.pointer (some ⟨p,0,none⟩),.slice (some ⟨w2.heap.size,0,none⟩) E E] 85) none;have Zz:Hid (Rw (w3.alloc (.cells #[.pointer (some ⟨p,0,none⟩),.slice (some ⟨w2.heap.size,0,none⟩) E E] 85)) w3.heap.size p w2.heap.size (List.replicate E 0)):=by
   refine⟨?_,?_,by rw[vF];omega⟩
   ·rw[vF];exact aj.bB w3 85 _
   ·have e:=iA.kept bm (by simp)
    rw[List.map_replicate];exact e
  have ZA:Hid (H.AJ (pM md) (O.fK md ins) (pB md) 0 (List.replicate E 0)):=by
   have e:=H.AJ.start (pM md) (O.fK md ins) (pB md);rw[HE.out,ey] at e;exact e
  have fB:=ae (aC dZ.out (aC aU bm));have amO:w2.heap.size<w3.heap.size:=iA.lt;clear cB aU bm iA;go_wp2;go_loopw[40] (fun i wr=>∃(k:Nat) (cells:List Int),k<=ins.length/\i=.int .i64 k/\Rw wr w3.heap.size p w2.heap.size cells/\Hid (H.AJ (pM md) (O.fK md ins) (pB md) k cells)/\w1.grownBy wr none) (fun i _=>ins.length-(intOf i).toNat)
  case atStart=>exact⟨0,List.replicate E 0,bK _,rfl,Zz.out,ZA,fB.out⟩
  case round=>
   obtain⟨k,cells,hk,rfl,jn,HJ,aF⟩:=hrel;have bH:=ae aF;by_cases aK:k<ins.length
   ·obtain⟨l,hv⟩:∃l,ins[k]?=some l:=⟨_,aT aK⟩
    obtain⟨g,ao,c',rfl,d1,Jo⟩:=(HI.out.Z aF).get k l hv;have ZB:k<H.fN (pM md):=by rw[<-mn.out];exact aK
    obtain⟨dh,km⟩:=H.Xf HA.out Zx.out ZB hv;obtain⟨f1,f2,f3,f4⟩:=HA.out.gE dh;have Fu:k<(pB md).length:=by rw[show(pB md).length=(pD md).lv.length from HA.out.L.len];exact dh
    obtain⟨x,hx⟩:∃x,(pB md)[k]?=some x:=⟨_,aT Fu⟩;have yH:0<=x.a:=by rw[<-getD_some (d:=H.aV) hx];exact f1
    have AG:1<=x.c:=by rw[<-getD_some (d:=H.aV) hx];exact f2
    have Jx:x.e<=H.gR (pB md):=by rw[<-getD_some (d:=H.aV) hx];exact f4
    have yI:x.a+x.c<=cells.length:=by rw[HJ.out.len];exact Jx
    have ZC:(l.length:Int)=x.c:=by rw[<-getD_some (d:=H.aV) hx];exact km
    have HS:Hid (H.AJ (pM md) (O.fK md ins) (pB md) (k+1) (H.pA cells x.a.toNat l)):=by
     have e:=H.AJ.step HA.out Zx.out HJ.out ZB hv;rw[getD_some hx] at e;exact e
    have HC:=ae (Zf w3.heap.size p w2.heap.size md cells l k x ao l.length c' wr (HP.out.Z aF) jn hx yH AG yI ZC Jo);clear hv Jo jn hx f1 f2 f3 f4 Jx yH AG yI km ZC aF;go_wp2_with fail;refine HC.out.mono ?_;rintro e w5⟨rfl,j5,cJ⟩;have Ec:=ae j5;have iC:=ae (dF bH.out cJ qE);clear j5 cJ HC d1;go_wp2;go_roundw
    case rel=>exact⟨k+1,H.pA cells x.a.toNat l,by omega,by go_num,Ec.out,HS,iC.out⟩
    case measure=>simp[intOf];omega
   ·obtain rfl:k=ins.length:=by omega
    have Jy:Hid (H.AI (pM md) (O.fK md ins) (pD md) (pB md) 0 cells):=by
     have e:=HJ.out;rw[mn.out] at e;exact H.AJ.done HA.out e
    have Ay:=aG aF Q0.out;obtain⟨a1,c1,a2,c2,a3,c3,qQ,-,hO,-⟩:=HM.out;have q1':=aG aF (show w1.cell? ⟨m,1,none⟩=some (.slice a2 (pM md).ag.length c2) from qQ.cell 1);have HO:=ae hO;have Fz:=ae jn;clear qQ hO jn aF HJ ZA Zz fB;go_wp2;clear Ay q1';go_loopw[58] (fun i wr=>∃(k:Nat) (cells:List Int),k<=(pM md).ag.length/\i=.int .i64 k/\Rw wr w3.heap.size p w2.heap.size cells/\Hid (H.AI (pM md) (O.fK md ins) (pD md) (pB md) k cells)/\w1.grownBy wr none) (fun i _=>(pM md).ag.length-(intOf i).toNat)
    case atStart=>exact⟨0,cells,bK _,rfl,Fz.out,Jy,bH.out⟩
    case round=>
     clear Fz Jy bH;obtain⟨k,cells,hk,rfl,jn,Jz,aF⟩:=hrel;have bH:=ae aF;by_cases aK:k<(pM md).ag.length
     ·obtain⟨o,ho⟩:∃o,(pM md).ag[k]?=some o:=⟨_,aT aK⟩
      obtain⟨g,ao,pn,cp,rfl,gN,-,sR,hR⟩:=(HO.out.Z aF).get k o ho;have HF:=ae (H.ajR HA.out Jz.out ho);have D7:=ae (H.Xe HA.out ho);have eX:=ae (H.AI.step HA.out Jz.out ho);have km:(cells.length:Int)=H.gR (pB md):=Jz.out.len;have Ee:=ae km;have Fz:=ae jn;have As:=ae sR;have lp:=ae (aj.bB wr 93 (aO o (.slice ao pn cp)));have dN:=ae (aQ wr (.cells (aO o (.slice ao pn cp)) 93) none);clear ho km jn sR aF;go_wp2_with (first|(refine wpList_load_mid rfl 93 _ rfl g (k*16) rfl (aO o (.slice ao pn cp)).toList _ hR underlying93 rfl Tryz.db ?_)|(refine aaY rfl 93 _ _ rfl wr.heap.size (aO o (.slice ao pn cp)) rfl rfl 93 (aR 0 0 0 0 0 0 0 0 false (.slice none 0 0) 0 0 0 0 0 0) (aj.bB wr 93 _) Tryz.db rfl (nY ..) ?_;rw[World.setRow_alloc_new];generalize wr.alloc (.cells (aO o (.slice ao pn cp)) 93)=w6 at *;have AA:w6.cell? ⟨wr.heap.size,1,none⟩=some (.int .i64 o.a):=lp.out.cell 1));refine(RY w3.heap.size p w2.heap.size md cells o.a wr w6 (HP.out.Z bH.out) Fz.out dN.out Ee.out).mono ?_;rintro e w7⟨⟨aa,ca,rfl,ZD⟩,dJ⟩;have ZE:=ae ZD;have lk:=ae (aC dN.out dJ);have vO:=ae (lp.out.kept dJ (by simp));have Jt:w7.cell? ⟨wr.heap.size,2,none⟩=some (.int .i64 o.b):=vO.out.cell 2;clear ZD dJ AA lp dN hR;go_wp2_with fail;refine(RY w3.heap.size p w2.heap.size md cells o.b wr w7 (HP.out.Z bH.out) Fz.out lk.out Ee.out).mono ?_;rintro e w8⟨⟨ab',cb',rfl,ZF⟩,oU⟩;have ZG:=ae ZF;have Ef:=aC lk.out oU;have fJ:=ae Ef;have Fp:=vO.out.kept oU (by simp);have qp:w8.cell? ⟨p,0,none⟩=some (.pointer (some ⟨m,0,none⟩)):=aG (aC bH.out Ef) Q0.out;obtain⟨k0,k1,k2,k3,k4,k5,k6,k7,k8,k9,Aj,yB,Am,An,Ao,Ap⟩:=dS (show aj w8 wr.heap.size 93 (oo o (.slice ao pn cp)) from Fp);have js:=ae Fp;have ZH:O.jN (pM md) o (iY md cells o.a) (iY md cells o.b):=HF.out.1
      have HC:=ae (XB m (pM md) o ao pn cp aa (iY md cells o.a).length ca (iY md cells o.a) ab' (iY md cells o.b).length cb' (iY md cells o.b) w8.drew ((HM.out.Z (aC bH.out Ef)).Z (gH _ _)) (by omega) (m9 (eW (eW As.out Ef) (gH _ none)) (bK _)) ((ZE.out.Z Ef).Z (gH _ none)) ((ZG.out.Z Ef).Z (gH _ none)) ZH);have yp:Hid (O.iu (pM md) o (iY md cells o.a) (iY md cells o.b)=D.bW (O.fK md ins) o.to):=HF.out.2;rw[yp.out] at HC;clear ZF oU Ef Fp Jt vO lk ZH HF ZE ZG As;obtain⟨t0,t1,hb,ij,bE⟩:=D7.out;have Fu:H.fN (pM md)+k<(pB md).length:=by rw[show(pB md).length=(pD md).lv.length from HA.out.L.len];exact ij
      obtain⟨x,hx⟩:∃x,(pB md)[H.fN (pM md)+k]?=some x:=⟨_,aT Fu⟩;obtain⟨f1,f2,f3,f4⟩:=HA.out.gE ij;have yH:0<=x.a:=by rw[<-getD_some (d:=H.aV) hx];exact f1
      have AG:1<=x.c:=by rw[<-getD_some (d:=H.aV) hx];exact f2
      have Jx:x.e<=H.gR (pB md):=by rw[<-getD_some (d:=H.aV) hx];exact f4
      have yI:x.a+x.c<=cells.length:=by rw[Ee.out];exact Jx
      have pX:((D.bW (O.fK md ins) o.to).length:Int)=x.c:=by rw[<-getD_some (d:=H.aV) hx];exact bE
      have ND:Hid (iX md o.to=((H.fN (pM md)+k:Nat):Int)):=by unfold Hid iX;rw[ak (by omega)];exact hb
      have Hx:Hid ((pB md)[H.fN (pM md)+k]?=some x/\0<=x.a/\1<=x.c/\x.a+x.c<=cells.length/\((D.bW (O.fK md ins) o.to).length:Int)=x.c):=⟨hx,yH,AG,yI,pX⟩;have hZ:Hid (H.AI (pM md) (O.fK md ins) (pD md) (pB md) (k+1) (H.pA cells x.a.toNat (D.bW (O.fK md ins) o.to))):=by
       have e:=eX.out;rw[getD_some hx] at e;exact e
      clear hb ij bE f1 f2 f3 f4 yH AG yI Jx pX hx Fu eX D7 t0 t1 yp;generalize D.bW (O.fK md ins) o.to=dM at *;go_wp2
      go_region_with (go_at_call 38;refine HC.out.mono ?_;rintro e w9⟨⟨g9,c9,rfl,j7⟩,ky⟩;have lr:=ae j7;have jx:=ae (aC (gH _ _) ky);clear j7 ky)
      all_goals
       have Nn:w9.cell? ⟨wr.heap.size,5,none⟩=some (.int .i64 o.to):=aG jx.out k5;have qS:=ae (aC fJ.out jx.out);have Se:=ae (aC bH.out qS.out);clear k0 k1 k2 k3 k4 k5 k6 k7 k8 k9 Aj yB Am An Ao Ap qp HC;have s9:=ae (Nt p md o.to w9 (HP.out.Z Se.out));have rR:=ae (Zf w3.heap.size p w2.heap.size md cells dM (H.fN (pM md)+k) x (some ⟨g9,0,none⟩) dM.length c9 w9 (HP.out.Z Se.out) (Fz.out.Z qS.out) Hx.out.1 Hx.out.2.1 Hx.out.2.2.1 Hx.out.2.2.2.1 Hx.out.2.2.2.2 lr.out.sl);rw[ND.out] at s9;go_wp2_with fail;refine s9.out.mono ?_;rintro e LK⟨rfl,rfl⟩;clear s9;go_wp2_with fail;refine rR.out.mono ?_;rintro e Q7⟨rfl,ZI,ZJ⟩;have ani:=ae ZI;have anj:=ae (dF Se.out ZJ qE);clear ZI ZJ rR Nn;go_wp2;go_roundw
       case rel=>exact⟨k+1,H.pA cells x.a.toNat dM,by omega,by go_num,ani.out,hZ,anj.out⟩
       case measure=>simp[intOf];omega
     ·obtain rfl:k=(pM md).ag.length:=by omega
      have km:(cells.length:Int)=H.gR (pB md):=Jz.out.len;have Sf:∀n∈(pM md).aJ,iY md cells n=D.bW (O.fK md ins) n:=fun n hn=>H.ajS HA.out Jz.out hn;have lX:∀n∈(pM md).aJ,1<=(iY md cells n).length/\(iY md cells n).length<=512:=fun n hn=>by
       rw[Sf n hn];obtain⟨av,k2⟩:=HA.out.S.aJ n hn;have e1:=HA.out.S.sN n av.1 av.2.1 k2;have d:=HA.out.S.kN n av.1 av.2.1;have e2:=d.me;have e3:1<=M.cellsOf (M.aq (pM md) n):=by
        unfold M.cellsOf;have:=Int.mul_le_mul d.h0 d.w0 (by decide) (by have:=d.h0;omega);have:=Int.mul_le_mul this d.c0 (by decide) (by have h1:=d.h0;have h2:=d.w0;exact kX (by omega) (by omega));omega
       omega
      have Cw:Hid ((pM md).aJ.map (iY md cells)=D.run md ins):=by
       unfold Hid;rw[<-Sd.out];exact List.map_congr_left Sf
      have Sg:Hid ((pM md).aJ.length=md.aJ.length):=by unfold Hid pM;rw[H.MC]
      have HC:=ae (am6 w3.heap.size p w2.heap.size md cells wr (HP.out.Z aF) jn km lX);rw[Cw.out,Sg.out] at HC;clear jn aF km Sf lX;go_wp2_with fail;refine HC.out.mono ?_;rintro e w5⟨⟨G,gs,rfl,hF⟩,cJ⟩;have HF:Hid (NB w5 w1.heap.size G gs (D.run md ins)):=⟨hF.len,hF.out,jK bH.out.size hF.base,hF.AH,hF.aS,hF.gF⟩;have iC:=ae (aC bH.out cJ);clear hF cJ HC;go_wp2
      go_ret2
      exact⟨iC.out,.inr ⟨Hh.out,G,gs,rfl,HF.out⟩⟩
namespace H
theorem dH.NF{m:M.Md}{C:List (List Int)}(s:dH m C){l r:List M.Op}{c o:M.Op}(e:m.ag=l++c::r)(ho:o=c\/o∈r)(hr:o.to∈cM c):False:=by
 have hm:o∈m.ag:=by rw[e];rcases ho with rfl|h<;>simp_all
 have h3:=(s.to o hm).2.2;have iK:=s.xl;rw[e] at iK;have:=(Ord.append.mp iK).2.1 o.to hr;have dd:=this.2.2 h3;rw[List.nil_append] at dd;have nd:=s.nd;rw[e,lH,List.map_cons] at nd;have h4:=(List.nodup_append.mp nd).2.2;refine h4 _ dd o.to ?_ rfl;rcases ho with rfl|h
 ·exact pq
 ·exact sL _ (List.mem_map_of_mem h)
theorem ZK{o:M.Op}{l:List M.Op}(h:o∈l):∃a b,l=a++o::b:=List.append_of_mem h
def vR(m:M.Md)(o:M.Op):Prop:=∃n∈cM o,(M.aq m n).af=0\/(M.aq m n).af=3
theorem ank{m:M.Md}{o:M.Op}(h:rG m o=false):vR m o:=by
 unfold rG at h;rw[List.all_eq_false] at h;obtain⟨n,hn,h⟩:=h;refine⟨n,hn,?_⟩;unfold pt at h;by_cases c:(M.aq m n).af=0
 ·exact .inl c
 ·exact .inr (by simpa[c] using h)
theorem Sh{C:List (List Int)}:∀(rest:List M.Op) (m:M.Md) (left:List M.Op),dH (wo m (left++rest)) C->(∀o∈left,vR m o)->∀o∈(rest.foldl nD (m,left)).2,vR (rest.foldl nD (m,left)).1 o
 | [],m,left,_,hl=>hl
 | o::rest,m,left,h,hl=>by
  rw[List.foldl_cons];unfold nD;by_cases hk:rG m o=true
  ·rw[ay hk]
   obtain⟨e,s⟩:=h.Mr (l:=left) (r:=rest) (o:=o) rfl hk;have e':O.iu m o (M.aq m o.a).data (M.aq m o.b).data=D.bW C o.to:=e;rw[e'];refine Sh rest _ left s fun p hp=>?_;obtain⟨n,hn,rB⟩:=hl p hp;refine⟨n,hn,?_⟩;obtain⟨t0,t1,-⟩:=h.to o (by show o∈left++o::rest;simp);have t1':o.to<m.au.length:=t1;rw[Mq _ t0 t1'];have ne:n≠o.to:=by
    rintro rfl;obtain⟨a,b,rfl⟩:=ZK hp;exact h.NF (l:=a) (r:=b++o::rest) (c:=p) (o:=o) (by show a++p::b++o::rest=_;simp) (.inr (by simp)) hn
   rw[ak ne];exact rB
  ·rw[ak hk]
   refine Sh (C:=C) rest m (left++[o]) ?_ fun p hp=>?_
   ·rw[j4];exact h
   ·rcases List.mem_append.mp hp with h' | h'
    ·exact hl p h'
    ·rw[List.mem_singleton.mp h'];exact ank (by simpa using hk)
theorem ZL:∀(i:Nat) (m:M.Md) (o:M.Op),o∈(rH i m).ag->o∈m.ag
 | 0,_,_,h=>h
 | i+1,m,o,h=>by
  have h1:=ZL i (kA m i) o h;unfold kA at h1
  cases e:m.ag[i]? with
  | none=>rw[e] at h1;exact h1
  | some p=>
   rw[e] at h1;have h1:o∈(if cH m p.to=0 then { m with ag:=m.ag.eraseIdx i } else m:M.Md).ag:=h1
   split at h1
   ·exact List.mem_of_mem_eraseIdx h1
   ·exact h1
theorem ZM{m:M.Md}:∀(rest left:List M.Op) (P:M.Op->Prop),(∀s c:M.Op,P s->P (eU s c))->(∀o∈left,P o)->(∀o∈rest,P o)->∀o∈rest.foldl (joinStep m) left,P o
 | [],_,_,_,hl,_=>hl
 | c::rest,left,P,hP,hl,hr=>by
  rw[List.foldl_cons];refine ZM rest _ P hP (fun o ho=>?_) fun o ho=>hr o (sL _ ho);unfold joinStep at ho
  cases hh:og m left c with
  | none=>
   rw[hh] at ho;rcases List.mem_append.mp ho with h|h
   ·exact hl o h
   ·rw[List.mem_singleton.mp h];exact hr c pq
  | some i=>
   rw[hh] at ho;obtain⟨j,hj⟩:=mM ho;have rA:(left.modify i fun s=>eU s c)[j]?=some o:=hj;rw[List.getElem?_modify] at rA;obtain⟨s,hs,he⟩:=Option.map_eq_some_iff.mp rA
   split at he
   ·rw[<-he];exact hP s c (hl s (bV hs))
   ·rw[<-he];exact hl s (bV hs)
theorem anm{m:M.Md}(h:∀o∈m.ag,vR m o):∀o∈(drop m).ag,vR (drop m) o:=by
 intro o ho;obtain⟨n,hn,hk⟩:=h o (ZL _ _ _ ho);refine⟨n,hn,?_⟩;have e:M.aq (drop m) n=M.aq m n:=by unfold M.aq;unfold drop;rw[(MB _ _).1]
 rw[e];exact hk
theorem ann{m:M.Md}(h:∀o∈m.ag,vR m o):∀o∈(oS m).ag,vR (oS m) o:=
 ZM (m:=m) m.ag [] (vR m) (fun _ _ h=>h) (fun _ h=>aN h (by simp)) h
theorem ano{m:M.Md}(h:∀o∈m.ag,vR m o):∀o∈(mL m).ag,vR (mL m) o:=by
 intro o ho;obtain⟨n,hn,hk⟩:=h o ho;exact⟨n,hn,by rw[sQ];exact hk⟩
theorem anp{m:M.Md}{C:List (List Int)}(s:dH m C):∀o∈(jD m).ag,vR (jD m) o:=
 ano (ann (anm (Sh m.ag m [] s fun _ h=>aN h (by simp))))
theorem anq{m:M.Md}{C:List (List Int)}(s:dH m C){i:Nat}(h:∀(j:Nat) o,i<j->m.ag[j]?=some o->cH m o.to≠0):∀(j:Nat) o,i<=j->(kA m i).ag[j]?=some o->cH (kA m i) o.to≠0:=by
 intro j o hj ho
 cases e:m.ag[i]? with
 | none=>
  have e':kA m i=m:=by unfold kA;rw[e]
  rw[e'] at ho ⊢;have h1:=M.bP ho;have h2:¬i<m.ag.length:=fun c=>by rw[aT c] at e;exact aN e (by simp)
  omega
 | some p=>
  by_cases u:cH m p.to=0
  ·rw[XR e u] at ho ⊢
   have iK:(m.ag.eraseIdx i)[j]?=some o:=ho;rw[List.getElem?_eraseIdx] at iK;rw[ak (by omega)] at iK;have h1:=h (j+1) o (by omega) iK;have sp:=Iu e;have om:o∈m.ag.drop (i+1):=by
    refine bV (i:=j-i) ?_;rw[List.getElem?_drop];rw[<-iK];congr 1;omega
   have nr:o.to ∉ cM p:=fun hr=>s.NF sp.1 (.inr om) hr;have c0:(cM p).count o.to=0:=List.count_eq_zero.mpr nr;unfold cH at h1 ⊢;rw[sp.1,vy,c0] at h1;show iO (m.ag.eraseIdx i) o.to+m.aJ.count o.to≠0;rw[sp.2];exact h1
  ·rw[XS e u] at ho ⊢
   by_cases c:i=j
   ·subst c;rw[e] at ho;injection ho with ho;rw[<-ho];exact u
   ·exact h j o (by omega) ho
theorem ZN{C:List (List Int)}:∀(i:Nat) (m:M.Md),dH m C->(∀(j:Nat) o,i<=j->m.ag[j]?=some o->cH m o.to≠0)->∀o∈(rH i m).ag,cH (rH i m) o.to≠0
 | 0,m,_,h=>fun o ho=>by
  obtain⟨j,hj⟩:=mM ho;exact h j o (bK _) hj
 | i+1,m,s,h=>ZN i (kA m i) (s.kA i) (anq s fun j o hj ho=>h j o (by omega) ho)
theorem anr{m:M.Md}{C:List (List Int)}(s:dH m C):∀o∈(drop m).ag,cH (drop m) o.to≠0:=
 ZN m.ag.length m s fun j o hj ho=>by have:=M.bP ho;omega
theorem Si{m:M.Md}{C:List (List Int)}:∀(rest left:List M.Op),dH (wo m (left++rest)) C->(∀n,cH (wo m (left++rest)) n<=cH m n)->(∀o∈left++rest,cH (wo m (left++rest)) o.to=cH m o.to) ->
  (∀c∈left,c.af=7->cH m c.a=1->∀t∈left,¬(sO t=true/\t.to=c.a)) ->
  (∀o∈rest.foldl (joinStep m) left,cH (wo m (rest.foldl (joinStep m) left)) o.to=cH m o.to)/\(∀c∈rest.foldl (joinStep m) left,c.af=7->cH m c.a=1->∀t∈rest.foldl (joinStep m) left,¬(sO t=true/\t.to=c.a))
 | [],left,h,_,he,hc=>by rw[List.append_nil] at he;exact⟨he,hc⟩
 | o::rest,left,h,hu,he,hc=>by
  rw[List.foldl_cons];have hs:joinStep m left o=match og m left o with|some i=>left.modify i (fun s=>eU s o)|none=>left++[o]:=rfl
  have Sj:∀c∈left,o.to ∉ cM c:=by
   intro c km hr;obtain⟨a,b,rfl⟩:=ZK km;exact h.NF (l:=a) (r:=b++o::rest) (c:=c) (o:=o) (by show a++c::b++o::rest=_;simp) (.inr (by simp)) hr
  have ans:o.to ∉ cM o:=fun hr=>h.NF (l:=left) (r:=rest) (c:=o) (o:=o) rfl (.inl rfl) hr
  cases hh:og m left o with
  | none=>
   rw[hs,hh];refine Si (C:=C) rest (left++[o]) ?_ (fun n=>?_) (fun p hp=>?_) fun c km k7 u1 t ht=>?_
   ·rw[j4];exact h
   ·have:=hu n;rw[j4];exact this
   ·rw[j4] at hp ⊢;exact he p hp
   ·rintro ⟨hr,ha⟩
    rcases List.mem_append.mp km with h1|h1
    ·rcases List.mem_append.mp ht with h2|h2
     ·exact hc c h1 k7 u1 t h2 ⟨hr,ha⟩
     ·rw[List.mem_singleton.mp h2] at ha
      exact Sj c h1 (by rw[ha];exact vx c)
    ·rw[List.mem_singleton.mp h1] at k7 u1 ha
     rcases List.mem_append.mp ht with h2|h2
     ·unfold og at hh
      rw[ay ⟨k7,u1⟩,List.findIdx?_eq_none_iff] at hh;have:=hh t h2;unfold vu at this;rw[hr,ha] at this;simp at this
     ·rw[List.mem_singleton.mp h2] at ha
      exact ans (by rw[ha];exact vx o)
  | some i=>
   rw[hs,hh];obtain⟨k7,u1,s,hi,hr,ha⟩:=QI hh;obtain⟨e,-⟩:=Iu hi;have hl:i=(left.take i).length:=by rw[Ae];have:=M.bP hi;omega
   generalize hL:left.take i=l at *;generalize left.drop (i+1)=mid at *;subst hl;subst e;have hm:(match some l.length with|some i=>(l++s::mid).modify i (fun s=>eU s o)|none=>l++s::mid++[o])=l++eU s o::mid:=WQ l mid s _;rw[hm];have e1:l++s::mid++o::rest=l++s::(mid++o::rest):=by simp
   have e2:l++eU s o::mid++rest=l++eU s o::(mid++rest):=by simp
   have u2:cH (wo m (l++s::mid++o::rest)) o.a=1:=by
    have h1:=hu o.a;have h2:0<cH (wo m (l++s::mid++o::rest)) o.a:=sP.mpr (.inl ⟨o,by show o∈_++_;simp,vx o⟩);omega
   have J:=dH.eU h (l:=l) (mid:=mid) (rest:=rest) (s:=s) (c:=o) e1 hr k7 ha u2;have ro:cM o=[o.a]:=by unfold cM;rw[k7,ak (by decide),ak (by decide)]
   have ue:∀n,cH (wo m (l++eU s o::mid++rest)) n+(cM o).count n=cH (wo m (l++s::mid++o::rest)) n:=by
    intro n;unfold cH;have b1:iO (wo m (l++s::mid++o::rest)).ag n=iO (l++(mid++rest)) n+(cM s).count n+(cM o).count n:=by
     show iO (l++s::mid++o::rest) n=_;rw[e1,vy,<-j4 l mid,vy,j4];omega
    have b2:iO (wo m (l++eU s o::mid++rest)).ag n=iO (l++(mid++rest)) n+(cM s).count n:=by
     show iO (l++eU s o::mid++rest) n=_;rw[e2,vy];rfl
    rw[b1,b2];show _+m.aJ.count n+_=_+m.aJ.count n;omega
   have nd:=h.nd;have ZO:((l++s::(mid++o::rest)).map (·.to)).Nodup:=by rw[<-e1];exact nd
   have NG:∀p∈l++(mid++o::rest),p.to≠o.a:=by
    intro p hp ZP;rw[lH,List.map_cons] at ZO;obtain⟨-,n2,n3⟩:=List.nodup_append.mp ZO;rcases List.mem_append.mp hp with hp|hp
    ·exact n3 _ (List.mem_map_of_mem hp) s.to pq (by rw[ZP,ha])
    ·exact(List.nodup_cons.mp n2).1 (by rw[ha,<-ZP];exact List.mem_map_of_mem hp)
   have ZQ:∀n,n≠o.a->cH (wo m (l++eU s o::mid++rest)) n=cH (wo m (l++s::mid++o::rest)) n:=by
    intro n hn;have:=ue n;rw[ro,List.count_singleton,ak (by simpa using fun h=>hn h.symm)] at this;omega
   have JB:∀p,p∈l++eU s o::mid++rest->p=eU s o\/p∈l++(mid++o::rest):=by
    intro p hp;simp only[Ac,List.mem_cons] at hp ⊢;rcases hp with(h|h|h)|h
    ·exact .inr (.inl h)
    ·exact .inl h
    ·exact .inr (.inr (.inl h))
    ·exact .inr (.inr (.inr (.inr h)))
   refine Si (C:=C) rest (l++eU s o::mid) ?_ (fun n=>?_) (fun p hp=>?_) fun c km JC ZR t ht=>?_
   ·rw[e2];exact J
   ·have:=ue n;have:=hu n;omega
   ·rcases JB p hp with rfl|iH
    ·have hm:o∈l++s::mid++o::rest:=by simp
     show cH _ o.to=cH m o.to;rw[ZQ o.to (NG o (by simp)),he o hm]
    ·have hm:p∈l++s::mid++o::rest:=by
      rw[e1];simp only[Ac,List.mem_cons] at iH ⊢;rcases iH with h|h|h|h
      ·exact .inl h
      ·exact .inr (.inr (.inl h))
      ·exact .inr (.inr (.inr (.inl h)))
      ·exact .inr (.inr (.inr (.inr h)))
     rw[ZQ p.to (NG p iH),he p hm]
   ·rintro ⟨rP,NH⟩
    have inl:∀p,p∈l++eU s o::mid->p=eU s o\/p∈l++s::mid/\p.to≠o.a:=by
     intro p hp;simp only[Ac,List.mem_cons] at hp;rcases hp with h|h|h
     ·exact .inr ⟨by simp[h],NG p (by simp[h])⟩
     ·exact .inl h
     ·exact .inr ⟨by simp[h],NG p (by simp[h])⟩
    rcases inl c km with rfl|⟨bE,-⟩
    ·have k7s:s.af=7:=JC
     have u1s:cH m s.a=1:=ZR;rcases inl t ht with rfl|⟨ig,-⟩
     ·have Sk:o.to=s.a:=NH
      exact Sj s (by simp) (by rw[Sk];exact vx s)
     ·exact hc s (by simp) k7s u1s t ig ⟨rP,NH⟩
    ·rcases inl t ht with rfl|⟨ig,-⟩
     ·have Sk:o.to=c.a:=NH
      exact Sj c bE (by rw[Sk];exact vx c)
     ·exact hc c bE JC ZR t ig ⟨rP,NH⟩
theorem ZS{m:M.Md}:∀(rest left:List M.Op),∀o∈rest.foldl (joinStep m) left,(∃p∈rest,p.to=o.to)\/∃p∈left,p.to=o.to
 | [],left,o,h=>.inr ⟨o,h,rfl⟩
 | c::rest,left,o,h=>by
  rw[List.foldl_cons] at h;rcases ZS rest (joinStep m left c) o h with⟨p,hp,e⟩|⟨p,hp,e⟩
  ·exact .inl ⟨p,sL _ hp,e⟩
  ·unfold joinStep at hp
   cases hh:og m left c with
   | none=>
    rw[hh] at hp;rcases List.mem_append.mp hp with h1|h1
    ·exact .inr ⟨p,h1,e⟩
    ·rw[List.mem_singleton.mp h1] at e;exact .inl ⟨c,pq,e⟩
   | some i=>
    rw[hh] at hp;obtain⟨j,hj⟩:=mM hp;have rA:(left.modify i fun s=>eU s c)[j]?=some p:=hj;rw[List.getElem?_modify] at rA;obtain⟨s,hs,he⟩:=Option.map_eq_some_iff.mp rA
    split at he
    ·rw[<-he] at e;exact .inl ⟨c,pq,e⟩
    ·rw[<-he] at e;exact .inr ⟨s,bV hs,e⟩
theorem ZT(m:M.Md)(n:Int):cH (mL m) n=cH m n:=rfl
theorem anv{m:M.Md}{C:List (List Int)}(s:dH m C):(∀o∈(jD m).ag,cH (jD m) o.to≠0) /\
  (∀c∈(jD m).ag,∀t∈(jD m).ag,c.af=7->sO t=true->t.to=c.a->cH (jD m) t.to≠1):=by
 have sd:=s.iP.drop;have hw:=anr s.iP;obtain⟨J1,J2⟩:=Si (m:=drop (iP m)) (drop (iP m)).ag [] sd (fun _=>bj _) (fun _ _=>rfl) (fun _ h=>aN h (by simp));have tos:=ZS (m:=drop (iP m)) (drop (iP m)).ag [];refine⟨fun o ho=>?_,fun c hc t ht k7 hr ha=>?_⟩
 ·rw[jD,ZT]
  have e:cH (oS (drop (iP m))) o.to=cH (drop (iP m)) o.to:=J1 o ho;rw[e];rcases tos o ho with⟨p,hp,ep⟩|⟨p,hp,-⟩
  ·rw[<-ep];exact hw p hp
  ·exact aN hp (by simp)
 ·rw[jD,ZT]
  have e:cH (oS (drop (iP m))) t.to=cH (drop (iP m)) t.to:=J1 t ht;rw[e];intro h1;exact J2 c hc k7 (by rw[<-ha];exact h1) t ht ⟨hr,ha⟩
end H
structure Sp where
 af:Int
 bS:List Int
 to:Int
namespace T
structure Lf where
 f:Int
 t:Int
 m:Bool
def no:Lf:=⟨0,0,false⟩
def rd(i:Int)(l:List Lf)(b:Int):List Lf:=if 0<=b then l.set b.toNat ⟨(l.getD b.toNat no).f,i,(l.getD b.toNat no).m⟩ else l
def jP(n:Nat)(ins:List Int)(k:Nat):List Lf:=(ins.take k).foldl (fun l x=>l.set x.toNat ⟨-1,-1,true⟩) (List.replicate n no)
def jl(i:Int)(l:List Lf)(fs:List Int)(k:Nat):List Lf:=(fs.take k).foldl (rd i) l
def stTo(l0:List Lf)(ss:List Sp):Nat->List Lf
 | 0=>l0
 | k+1=>match ss[k]? with
  | some s=>(jl k (stTo l0 ss k) s.bS s.bS.length).set s.to.toNat ⟨k,k,true⟩
  | none=>stTo l0 ss k
def mid(n:Nat)(ss:List Sp)(ins:List Int):List Lf:=stTo (jP n ins ins.length) ss ss.length
def ux(n:Nat)(ss:List Sp)(ins aJ:List Int):List Lf:=jl ss.length (mid n ss ins) aJ aJ.length
theorem anx(i:Int)(l:List Lf)(b:Int):(rd i l b).length=l.length:=by unfold rd;split<;>simp
theorem Sm{β:Type}(f:List Lf->β->List Lf)(hf:∀l b,(f l b).length=l.length):∀(xs:List β) (l:List Lf),(xs.foldl f l).length=l.length
 | [],_=>rfl
 | x::xs,l=>by rw[List.foldl_cons,Sm f hf xs];exact hf l x
theorem JD(i:Int)(l:List Lf)(fs:List Int)(k:Nat):(jl i l fs k).length=l.length:=Sm _ (anx i) _ _
theorem NI(n:Nat)(ins:List Int)(k:Nat):(jP n ins k).length=n:=by
 unfold jP;rw[Sm _ (fun l b=>by simp)];simp
theorem JE(l0:List Lf)(ss:List Sp):∀k,(stTo l0 ss k).length=l0.length
 | 0=>rfl
 | k+1=>by
  unfold stTo
  cases ss[k]? with
  | none=>exact JE l0 ss k
  | some s=>show((jl k (stTo l0 ss k) s.bS s.bS.length).set _ _).length=_;rw[kG,JD];exact JE l0 ss k
theorem ZU(n:Nat)(ss:List Sp)(ins:List Int):(mid n ss ins).length=n:=by unfold mid;rw[JE,NI]
theorem anz(n:Nat)(ss:List Sp)(ins aJ:List Int):(ux n ss ins aJ).length=n:=by unfold ux;rw[JD,ZU]
theorem ZV{n:Nat}{ins:List Int}{k:Nat}{x:Int}(h:ins[k]?=some x):jP n ins (k+1)=(jP n ins k).set x.toNat ⟨-1,-1,true⟩:=by
 unfold jP;rw[H.kj h,List.foldl_append];rfl
theorem NJ{i:Int}{l:List Lf}{fs:List Int}{k:Nat}{x:Int}(h:fs[k]?=some x):jl i l fs (k+1)=rd i (jl i l fs k) x:=by
 unfold jl;rw[H.kj h,List.foldl_append];rfl
theorem ZW(i:Int)(l:List Lf)(fs:List Int):jl i l fs fs.length=fs.foldl (rd i) l:=by unfold jl;rw[jo]
theorem ZX{l0:List Lf}{ss:List Sp}{k:Nat}{s:Sp}(h:ss[k]?=some s):stTo l0 ss (k+1)=(jl k (stTo l0 ss k) s.bS s.bS.length).set s.to.toNat ⟨k,k,true⟩:=by
 rw[stTo,h]
structure NK(n:Nat)(ss:List Sp)(is us:List Int):Prop where
 ins:∀(k:Nat) x,is[k]?=some x->0<=x/\x<n/\((jP n is k).getD x.toNat no).m=false
 rd:∀(i:Nat) s,ss[i]?=some s->∀(k:Nat) b,s.bS[k]?=some b->-1<=b/\b<n/\(0<=b->((jl i (stTo (jP n is is.length) ss i) s.bS k).getD b.toNat no).m=true)
 anA:∀(i:Nat) s,ss[i]?=some s->∃b∈s.bS,0<=b
 to:∀(i:Nat) s,ss[i]?=some s->0<=s.to/\s.to<n/\((jl i (stTo (jP n is is.length) ss i) s.bS s.bS.length).getD s.to.toNat no).m=false
 aJ:∀(k:Nat) b,us[k]?=some b->-1<=b/\b<n/\(0<=b->((jl ss.length (mid n ss is) us k).getD b.toNat no).m=true)
 all:∀i:Nat,i<n->((ux n ss is us).getD i no).m=true
def lf(x:H.dE):Lf:=⟨x.f-1,x.t-1,true⟩
def L(r:Nat)(lv:List H.dE):List Lf:=lv.map lf++List.replicate r no
theorem Sn{r:Nat}{lv:List H.dE}{b:Nat}(h:b<lv.length):(L r lv).getD b no=lf (lv.getD b H.bQ):=by
 unfold L;rw[List.getD,rn (by simpa using h),dY,List.getD,aT h];rfl
theorem anB{r:Nat}{lv:List H.dE}{b:Nat}(h:lv.length<=b):(L r lv).getD b no=no:=by
 unfold L;rw[List.getD,oL (by simpa using h),tV]
 split<;>rfl
theorem anC{r:Nat}{d:H.Dr}{k n b:Int}(h0:0<=n)(h1:n<d.aW.length)(hb:d.aW.getD n.toNat 0=b)(hl:b = -1\/(0<=b/\b<d.lv.length)):rd k (L r d.lv) b=L r (H.g6 (k+1) d n).lv:=by
 unfold H.g6;rw[ak (by omega),hb];show _=L r (H.DJ d.lv b (k+1));unfold H.DJ rd;rcases hl with rfl|⟨xC,yJ⟩
 ·rw[ak (by decide),ak (by omega)]
 ·rw[ay xC,ay ⟨xC,yJ⟩,Sn (by omega)]
  unfold L;rw[List.set_append_left _ _ (by simp;omega),List.map_set]
  congr 2
  unfold lf;simp
theorem anD(k:Int)(d:H.Dr)(n:Int):(H.g6 k d n).aW=d.aW:=(H.My k d n).aW
theorem anE(k:Int)(d:H.Dr)(n:Int):(H.g6 k d n).lv.length=d.lv.length:=(H.My k d n).len
theorem So{r:Nat}{k:Int}(g:Int->Int):∀(ns:List Int) (d:H.Dr),(∀n∈ns,0<=n/\n<d.aW.length/\d.aW.getD n.toNat 0=g n/\(g n = -1\/(0<=g n/\g n<d.lv.length)))->(ns.map g).foldl (rd k) (L r d.lv)=L r (ns.foldl (H.g6 (k+1)) d).lv
 | [],_,_=>rfl
 | n::ns,d,h=>by
  rw[List.map_cons,List.foldl_cons,List.foldl_cons];obtain⟨h0,h1,h2,h3⟩:=h n pq;rw[anC h0 h1 h2 h3];refine So g ns _ fun n' oO=>?_;rw[anD,anE];exact h n' (sL _ oO)
def fm(m:M.Md)(n:Int):Int:=if n<0\/((H.nE m).aW.length:Int)<=n then -1 else (H.nE m).aW.getD n.toNat 0
def sp(m:M.Md)(o:M.Op):Sp:=⟨o.af,(H.cM o).map (fm m),fm m o.to⟩
def gS(m:M.Md):List Sp:=m.ag.map (sp m)
def ins(m:M.Md):List Int:=(List.range (H.fN m)).map fun i:Nat=>(i:Int)
def aJ(m:M.Md):List Int:=m.aJ.map (fm m)
theorem ZY(m:M.Md)(k:Nat)(hk:k<=H.fN m)(n:Nat)(hn:H.fN m<=n):jP n (ins m) k=List.replicate k ⟨-1,-1,true⟩++List.replicate (n-k) no:=by
 induction k with
 | zero=>simp[jP]
 | succ k ih=>
  have hx:(ins m)[k]?=some (k:Int):=by unfold ins;rw[dY,List.getElem?_range (by omega)];rfl
  rw[ZV hx,ih (by omega),ey,List.set_append_right _ _ (by simp),show n-k=(n-(k+1))+1 by omega,List.replicate_succ,List.replicate_succ'];simp
theorem anF(m:M.Md):(H.fM m.au m.au.length).lv.map lf=List.replicate (H.fN m) ⟨-1,-1,true⟩:=by
 have D:=H.xn m.au m.au.length (bj _);show _=List.replicate (H.fM m.au m.au.length).lv.length _;generalize H.fM m.au m.au.length=d at *
 apply nF
 intro b;rw[dY,tV];by_cases c:b<d.lv.length
 ·rw[ay c]
  obtain⟨n,t,hn,ht,h0,rfl⟩:=D.l0 b c;have e:=(D.n0 n t hn ht h0).2;rw[List.getD,aT c,Option.getD_some] at e;rw[aT c,e];rfl
 ·rw[ak c,cX (by omega)];rfl
theorem NL{m:M.Md}{C:List (List Int)}(S:H.dH m C){k:Nat}{d:H.Dr}(D:H.Ff m (H.fN m) k d){n:Int}(h0:0<=n)(h1:n<m.au.length)
  (h3:(M.aq m n).af=3->∃(j:Nat) (p:M.Op),j<k/\m.ag[j]?=some p/\p.to=n):d.aW.getD n.toNat 0=fm m n/\(fm m n = -1\/(0<=fm m n/\fm m n<d.lv.length))/\((M.aq m n).af=0\/(M.aq m n).af=3->0<=fm m n):=by
 have P:=H.Ag S;have e:fm m n=(H.nE m).aW.getD n.toNat 0:=by unfold fm;rw[ak (by rw[P.ln];omega)]
 have hl:=D.ll;rw[e];by_cases k0:(M.aq m n).af=0
 ·have a:=D.n0 n.toNat _ (O.kM h0 h1).1 k0
  have b:=P.n0 n.toNat _ (O.kM h0 h1).1 k0;refine⟨by rw[a.1,b.1],.inr ⟨by omega,by omega⟩,fun _=>by omega⟩
 ·by_cases k3:(M.aq m n).af=3
  ·obtain⟨j,p,hj,hp,he⟩:=h3 k3
   have a:=(D.n1 j p hj hp).1;have b:=(P.n1 j p hp).1;rw[he] at a b;refine⟨by rw[a,b],.inr ⟨by omega,by omega⟩,fun _=>by omega⟩
  ·have nm:∀(i:Nat) (o:M.Op),m.ag[i]?=some o->o.to≠(n.toNat:Int):=by
    intro i o ho he;have:=(S.to o (bV ho)).2.2;rw[he,uc h0] at this;exact k3 this
   have E0:(M.aq m (n.toNat:Int)).af≠0:=by rw[uc h0];exact k0
   have a:=D.n2 n.toNat (by omega) E0 fun i o _ ho=>nm i o ho;have b:=P.n2 n.toNat (by omega) E0 nm;exact⟨by rw[a,b],.inl b,fun h=>aN h (by simp[k0,k3])⟩
theorem anG{i:Int}{l:List Lf}{b:Int}{j:Nat}:((rd i l b).getD j no).m=(l.getD j no).m:=by
 unfold rd
 split
 ·rw[List.getD,oe]
  by_cases c:b.toNat=j
  ·subst c
   by_cases hl:b.toNat<l.length
   ·rw[ay rfl,ay hl]
    rfl
   ·rw[ay rfl,ak hl,List.getD,cX (by omega)]
  ·rw[ak c];rfl
 ·rfl
theorem Sq{i:Int}{l:List Lf}{fs:List Int}{j:Nat}:∀k,((jl i l fs k).getD j no).m=(l.getD j no).m:=by
 intro k;unfold jl;generalize fs.take k=xs
 induction xs generalizing l with
 | nil=>rfl
 | cons x xs ih=>rw[List.foldl_cons,ih,anG]
theorem NM{m:M.Md}{C:List (List Int)}(S:H.dH m C)(N:Nat)(hN:N=H.fN m+m.ag.length):∀k,k<=m.ag.length->stTo (jP N (ins m) (ins m).length) (gS m) k=L (m.ag.length-k) (H.kB m (H.fM m.au m.au.length) k).lv
 | 0,_=>by
  have e:=ZY m (H.fN m) (bj _) N (by omega);have hl:(ins m).length=H.fN m:=by simp[ins]
  show jP N (ins m) (ins m).length=_;rw[hl,e];show _=(H.fM m.au m.au.length).lv.map lf++_;rw[anF]
  congr 2
  omega
 | k+1,hk=>by
  have ih:=NM S N hN k (by omega);have D:=H.BY S (H.xn m.au m.au.length (bj _)).ag k (by omega);have hx:m.ag[k]?=some m.ag[k]:=aT (by omega);generalize m.ag[k]=o at hx;have hs:(gS m)[k]?=some (sp m o):=by unfold gS;rw[dY,hx];rfl
  have e:H.kB m (H.fM m.au m.au.length) (k+1)=H.iU ((H.cM o).foldl (H.g6 ((k:Int)+1)) (H.kB m (H.fM m.au m.au.length) k)) o.to (M.cellsOf (M.aq m o.to)) ((k:Int)+1):=by
   rw[H.kB,hx]
  rw[ZX hs,ih,e,ZW];generalize H.kB m (H.fM m.au m.au.length) k=d at *;have I0:(H.fM m.au m.au.length).lv.length=H.fN m:=rfl;rw[I0] at D;have R:∀n∈H.cM o,0<=n/\n<d.aW.length/\d.aW.getD n.toNat 0=fm m n/\(fm m n = -1\/(0<=fm m n/\fm m n<d.lv.length)):=by
   intro n hn;obtain⟨n0,n1,n3⟩:=H.Iz S.xl hx hn;have:=NL S D n0 n1 n3;exact⟨n0,by rw[D.ln];exact n1,this.1,this.2.1⟩
  show((((H.cM o).map (fm m)).foldl (rd (k:Int)) (L (m.ag.length-k) d.lv)).set (fm m o.to).toNat _)=_;rw[So (fm m) _ d R];have E:=H.DL ((k:Int)+1) (H.cM o) d;have El:=E.len;have En:=E.aW;generalize (H.cM o).foldl (H.g6 ((k:Int)+1)) d=d' at *;obtain⟨t0,t1,t3⟩:=S.to o (bV hx);have P:=H.Ag S;have eb:fm m o.to=H.fN m+k:=by
   unfold fm;rw[ak (by rw[P.ln];omega)];exact(P.n1 k o hx).1
  have qi:d'.lv.length=H.fN m+k:=by rw[El,D.ll]
  have Z0:=D.ln;unfold H.iU;rw[ak (by rw[En,Z0];omega)];show _=(d'.lv++[_]).map lf++List.replicate (m.ag.length-(k+1)) no;rw[eb];unfold L;rw[List.set_append_right _ _ (by simp;omega),show m.ag.length-k=(m.ag.length-(k+1))+1 by omega,List.replicate_succ,lH,j4];have e0:((H.fN m:Int)+(k:Int)).toNat-(d'.lv.map lf).length=0:=by simp;omega
  rw[e0,List.set_cons_zero]
  congr 1
  show _=[lf _]++_;unfold lf;simp
theorem anH{m:M.Md}{C:List (List Int)}(S:H.dH m C)(hv:∀o∈m.ag,H.vR m o)(N:Nat)(hN:N=H.fN m+m.ag.length):ux N (gS m) (ins m) (aJ m)=(H.nE m).lv.map lf/\NK N (gS m) (ins m) (aJ m):=by
 have P:=H.Ag S;have hl:(gS m).length=m.ag.length:=by simp[gS]
 have I0:(H.fM m.au m.au.length).lv.length=H.fN m:=rfl;have em:mid N (gS m) (ins m)=L 0 (H.kB m (H.fM m.au m.au.length) m.ag.length).lv:=by
  unfold mid;rw[hl,NM S N hN m.ag.length (bj _),Nat.sub_self]
 have Da:=H.BY S (H.xn m.au m.au.length (bj _)).ag m.ag.length (bj _);rw[I0] at Da;have R:∀n∈m.aJ,0<=n/\n<(H.kB m (H.fM m.au m.au.length) m.ag.length).aW.length/\(H.kB m (H.fM m.au m.au.length) m.ag.length).aW.getD n.toNat 0=fm m n/\(fm m n = -1\/(0<=fm m n/\fm m n<(H.kB m (H.fM m.au m.au.length) m.ag.length).lv.length)):=by
  intro n hn;obtain⟨⟨a0,a1,a3⟩,-⟩:=S.aJ n hn;have:=NL S Da a0 a1 (fun k3=>by
   obtain⟨p,hp,he⟩:=List.mem_map.mp (a3 k3);obtain⟨j,hj⟩:=mM hp;exact⟨j,p,M.bP hj,hj,he⟩)
  exact⟨a0,by rw[Da.ln];exact a1,this.1,this.2.1⟩
 have ef:ux N (gS m) (ins m) (aJ m)=(H.nE m).lv.map lf:=by
  unfold ux;rw[ZW,em,hl];show(m.aJ.map (fm m)).foldl (rd (m.ag.length:Int)) _=_;rw[So (fm m) _ _ R];unfold L;simp[H.nE]
 have yD:(H.nE m).lv.length=N:=by rw[P.ll,hN]
 refine⟨ef,⟨fun k x hx=>?_,fun i s hs k b hb=>?_,fun i s hs=>?_,fun i s hs=>?_,fun k b hb=>?_,fun i hi=>?_⟩⟩
 ·unfold ins at hx
  rw[dY] at hx;obtain⟨y,hy,rfl⟩:=Option.map_eq_some_iff.mp hx;have FA:=M.bP hy;rw[List.length_range] at FA;rw[List.getElem?_range FA] at hy;injection hy with hy;subst hy;refine⟨by omega,by omega,?_⟩;rw[ZY m k (by omega) N (by omega),ey,List.getD,oL (by simp),tV]
  split<;>rfl
 ·unfold gS at hs
  rw[dY] at hs;obtain⟨o,ho,rfl⟩:=Option.map_eq_some_iff.mp hs;have hi:=M.bP ho;have D:=H.BY S (H.xn m.au m.au.length (bj _)).ag i (by omega);rw[I0] at D;have oh:((H.cM o).map (fm m))[k]?=some b:=hb;rw[dY] at oh;obtain⟨n,hn,rfl⟩:=Option.map_eq_some_iff.mp oh;obtain⟨n0,n1,n3⟩:=H.Iz S.xl ho (bV hn);obtain⟨-,a,-⟩:=NL S D n0 n1 n3;have Z6:=D.ll;refine⟨by omega,by omega,fun h0=>?_⟩;rw[Sq,NM S N hN i (by omega),Sn (by omega)]
  rfl
 ·unfold gS at hs
  rw[dY] at hs;obtain⟨o,ho,rfl⟩:=Option.map_eq_some_iff.mp hs;have hi:=M.bP ho;have D:=H.BY S (H.xn m.au m.au.length (bj _)).ag i (by omega);rw[I0] at D;obtain⟨n,hn,hk⟩:=hv o (bV ho);obtain⟨n0,n1,n3⟩:=H.Iz S.xl ho hn;obtain⟨-,-,a⟩:=NL S D n0 n1 n3;exact⟨fm m n,List.mem_map_of_mem hn,a hk⟩
 ·unfold gS at hs
  rw[dY] at hs;obtain⟨o,ho,rfl⟩:=Option.map_eq_some_iff.mp hs;have hi:=M.bP ho;have D:=H.BY S (H.xn m.au m.au.length (bj _)).ag i (by omega);rw[I0] at D;obtain⟨t0,t1,t3⟩:=S.to o (bV ho);have eb:fm m o.to=H.fN m+i:=by
   unfold fm;rw[ak (by rw[P.ln];omega)];exact(P.n1 i o ho).1
  have Z6:=D.ll;show 0<=fm m o.to/\fm m o.to<N/\((jl _ _ _ _).getD (fm m o.to).toNat no).m=false;refine⟨by omega,by omega,?_⟩;rw[Sq,NM S N hN i (by omega),anB (by omega)]
  rfl
 ·have oh:(m.aJ.map (fm m))[k]?=some b:=hb
  rw[dY] at oh;obtain⟨n,hn,rfl⟩:=Option.map_eq_some_iff.mp oh;obtain⟨-,-,-,a⟩:=R n (bV hn);have Z6:=Da.ll;refine⟨by omega,by omega,fun h0=>?_⟩;rw[Sq,em,Sn (by omega)]
  rfl
 ·rw[ef,List.getD,dY,aT (by omega)]
  rfl
end T
end Go.Proofs.YtcnhfffgbamonabGreat
