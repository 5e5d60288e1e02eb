import Derived.Test.YtcnhfffgbamonaaGreatZ19
set_option maxRecDepth 100000
set_option maxHeartbeats 6400000
namespace Go.Proofs.YtcnhfffgbamonaaGreat
open Go.Proofs.Tryz
open Go.RowKit
structure Fr(S:Nat->Prop)(w w':World):Prop where
 os:w'.os=w.os
 tape:w'.tape=w.tape
 output:w'.output=w.output
 size:w.heap.size<=w'.heap.size
 block:∀k,k<w.heap.size->¬S k->w'.heap[k]?=w.heap[k]?
theorem Fr.refl(S:Nat->Prop)(w:World):Fr S w w:=⟨rfl,rfl,rfl,bj _,fun _ _ _=>rfl⟩
theorem Fr.uI{w w':World}{row:Option Nat}(h:w.grownBy w' row):Fr (fun k=>some k=row) w w':=⟨h.os,h.tape,h.output,h.size,fun k hk hn=>h.block k hk hn⟩
theorem Fr.mono{S S':Nat->Prop}{w w':World}(h:Fr S w w')(hS:∀k,k<w.heap.size->S k->S' k):Fr S' w w':=⟨h.os,h.tape,h.output,h.size,fun k hk hn=>h.block k hk fun hs=>hn (hS k hk hs)⟩
theorem Fr.trans{S:Nat->Prop}{w w1 w2:World}(h:Fr S w w1)(k:Fr S w1 w2):Fr S w w2:=
 ⟨k.os.trans h.os,k.tape.trans h.tape,k.output.trans h.output,jN h.size k.size,fun i hi hn=>(k.block i (qN hi h.size) hn).trans (h.block i hi hn)⟩
theorem Fr.iK{S:Nat->Prop}{w w1 w2:World}{row:Option Nat}(h:Fr S w w1)(k:w1.grownBy w2 row)(hr:∀g,row=some g->w.heap.size<=g\/S g):Fr S w w2:=
 ⟨k.os.trans h.os,k.tape.trans h.tape,k.output.trans h.output,jN h.size k.size,fun i hi hn=>(k.block i (qN hi h.size) (fun e=>by rcases hr i e.symm with h' |h';omega;exact hn h')).trans (h.block i hi hn)⟩
theorem Fr.gy{S:Nat->Prop}{w w':World}{b:Nat}{t:TypeId}{cs:Array Value}(h:Fr S w w')(hB:aj w b t cs)(hS:¬S b):aj w' b t cs:=by
 have hl:=hB.lt;unfold aj at hB ⊢;rw[h.block b hl hS];exact hB
theorem Fr.jI{S:Nat->Prop}{w w':World}{base size n:Nat}{e:TypeId}{v:Value}{xs:List Value}(h:Fr S w w')(ho:w.ownsRow base e size v n xs)(hS:∀g,v.ownBlock=some g->¬S g):w'.ownsRow base e size v n xs:=by
 refine⟨ho.1,?_⟩;rcases ho.2 with h' |⟨g,cap,dY,rfl,hb,hg,hr⟩
 ·exact .inl h'
 ·refine .inr ⟨g,cap,dY,rfl,hb,?_,hr⟩
  have hl:g<w.heap.size:=by
   rcases cE g w.heap.size with aJ|A7
   ·exact aJ
   ·rw[Array.getElem?_eq_none A7] at hg;cases hg
  rw[h.block g hl (hS g rfl)];exact hg
theorem Fr.gr{S:Nat->Prop}{w0 w w':World}(h:w0.grownBy w none)(k:Fr S w w')(hS:∀g,S g->w0.heap.size<=g):w0.grownBy w' none:=
 ⟨k.os.trans h.os,k.tape.trans h.tape,k.output.trans h.output,jN h.size k.size,fun i hi ey=>(k.block i (qN hi h.size) (fun e=>by have:=hS i e;omega)).trans (h.block i hi ey)⟩
theorem iF{w w':World}{base size n:Nat}{e:TypeId}{v:Value}{xs:List Value}{row:Option Nat}(ho:w.ownsRow base e size v n xs)(hg:w.grownBy w' row)(ey:∀g,v.ownBlock=some g->some g≠row):w'.ownsRow base e size v n xs:=
 (Fr.uI hg).jI ho fun g h e=>ey g h e
abbrev LW(w:World)(b:Nat)(ps ls lw bN n ex CJ ts mark os:Value):Prop:=aj w b 31 #[ps,ls,lw,bN,n,ex,CJ,ts,mark,os]
theorem aoh(b base:Nat)(ps v1 v2 bN nn ex CJ ts mark os:Value)(n1 n2:Nat)(xs ys:List Value)(ao:Option Addr)(n c:Nat)(l:List Int)(w:World)(hB:LW w b ps v1 v2 bN nn ex CJ ts mark os)
  (h1:w.ownsRow base 33 1 v1 n1 xs) (h2:w.ownsRow base 33 1 v2 n2 ys) (ze:v1.ownBlock≠some b) (Ch:v2.ownBlock≠some b) (xB:∀g,v1.ownBlock=some g->v2.ownBlock≠some g) (zg:base<=w.heap.size)
  (hS:Sl w (.slice ao n c) l) (hl:l.length<=1000000000) (iq:n1<=1000000000) (kl:n2<=1000000000):
 Calls prog 39 #[.pointer (some ⟨b,0,none⟩),.slice ao n c] w fun e w'=>e=.returned (.tuple #[])/\∃g1 c1 g2 c2,
   LW w' b ps (.slice (some ⟨g1,0,none⟩) (n1+1) c1) (.slice (some ⟨g2,0,none⟩) (n2+1) c2) bN nn ex CJ ts mark os /\
   w'.ownsRow base 33 1 (.slice (some ⟨g1,0,none⟩) (n1+1) c1) (n1+1) (xs++[.slice ao n c])/\w'.ownsRow base 33 1 (.slice (some ⟨g2,0,none⟩) (n2+1) c2) (n2+1) (ys++[.slice (some ⟨w.heap.size,0,none⟩) l.length l.length]) /\
   aj w' w.heap.size 3 (l.map (Value.int .i64)).toArray/\(v1.ownBlock=some g1\/w.heap.size<g1)/\(v2.ownBlock=some g2\/w.heap.size<g2)/\g1≠b/\g2≠b/\g1≠g2/\Fr (fun k=>k=b\/v1.ownBlock=some k\/v2.ownBlock=some k) w w':=by
 have dh:=hB.lt;have o1:∀g,v1.ownBlock=some g->g<w.heap.size:=fun g hg=>(iL h1 g hg).2;have o2:∀g,v2.ownBlock=some g->g<w.heap.size:=fun g hg=>(iL h2 g hg).2;obtain⟨i0,hi,cP,cQ,cZ⟩:=info_parts Tryz.Ey;go_enter func39,ntmps39;go_wp2_with fail;refine(SB ao n c l w hS hl).mono ?_;rintro e w1⟨rfl,hC,FY⟩;have SO:=FY.size;have kz:=hC.lt;have B1:=hB.kept FY (by simp);have c1:w1.cell? ⟨b,1,none⟩=some v1:=B1.cell 1;have O1:=ae (iF h1 FY (by simp));have O2:=ae (iF h2 FY (by simp));have nF:=ae B1;have jq:=ae hC;have F1:=ae (show Fr (fun k=>k=b\/v1.ownBlock=some k\/v2.ownBlock=some k) w w1 from (Fr.uI FY).mono (fun k _ h=>by cases h));have Hb:=ae (And.intro ze (And.intro Ch xB));have Ho:=ae (And.intro o1 o2);clear B1 hC FY hB h1 h2 ze Ch xB hS o1 o2;go_wp2_with(at_builtin;refine wpList_append_lies _ rfl _ _ 25 rfl base 33 i0 (.slice none 0 0) 1 24 underlying25 hi cP cQ cZ rfl (by decide) _ _ _ rfl (lB O1.out _) ⟨w1.heap.size,0,none⟩ 1 1 [.slice ao n c] rfl rfl ?c1 ?c2 ?c3 ?c4 ?c5 ?c6 (w1.heap.size+1) ?c7 ?_)
 case c1=>exact kb w1 33 #[.slice ao n c]
 case c2=>intro u hu;simp at hu;subst hu;rfl
 case c3=>decide
 case c4=>unfold maxLen;omega
 case c5=>omega
 case c6=>simp;omega
 case c7=>simp
 intro g1 zj s1 cB cR jr aJ;have bq:w1.grownBy s1 v1.ownBlock:=aC (aQ _ _ _) cR;have FZ:g1≠b:=by
  rcases jr with h|h
  ·intro e;subst e;exact Hb.out.1 h
  ·omega
 have g1o:v1.ownBlock=some g1\/w.heap.size<g1:=jr.imp id (fun h=>by omega);have B2:LW s1 b ps v1 v2 bN nn ex CJ ts mark os:=nF.out.kept bq (fun e=>Hb.out.1 e.symm);have C2:=ae (jq.out.kept bq (fun e=>by have:=Ho.out.1 _ e.symm;omega));have P2:=ae (iF O2.out bq (fun g hg e=>Hb.out.2.2 g e.symm hg));have F2:=ae (F1.out.iK bq (fun g hg=>.inr (.inr (.inl hg))));have b1:s1.cell? ⟨b,1,none⟩=some v1:=B2.cell 1;have f1:=B2.free 1;have B3:LW (s1.setCell ⟨b,1,none⟩ (.slice (some ⟨g1,0,none⟩) (n1+1) zj)) b ps (.slice (some ⟨g1,0,none⟩) (n1+1) zj) v2 bN nn ex CJ ts mark os:=B2.set 1 (.slice (some ⟨g1,0,none⟩) (n1+1) zj);have j5:=bD s1 b 1 (.slice (some ⟨g1,0,none⟩) (n1+1) zj);have Q1:=ae (iF cB j5 (fun g hg e=>by have h1:some g1=some g:=hg;injection h1 with h1;injection e with e;exact FZ (h1.trans e)));have Q2:=ae (iF P2.out j5 (fun g hg e=>by injection e with e;subst e;exact Hb.out.2.1 hg));have C3:=ae (C2.out.kept j5 (by simp;omega));have F3:=ae (F2.out.iK j5 (fun g hg=>.inr (.inl (by injection hg with hg;exact hg.symm))));have b2:(s1.setCell ⟨b,1,none⟩ (.slice (some ⟨g1,0,none⟩) (n1+1) zj)).cell? ⟨b,2,none⟩=some v2:=B3.cell 2;have fU:=ae B3;have xS:=bq.size;have CK:=ae (And.intro FZ (And.intro g1o jr));clear cB cR bq B2 B3 j5 C2 P2 F2 O1 O2 nF jq F1 c1 jr FZ g1o;go_wp2_with(at_builtin;refine wpList_append_lies _ rfl _ _ 25 rfl base 33 i0 (.slice none 0 0) 1 24 underlying25 hi cP cQ cZ rfl (by decide) _ _ _ rfl (lB Q2.out _) ⟨s1.heap.size,0,none⟩ 1 1 [.slice (some ⟨w.heap.size,0,none⟩) l.length l.length] rfl rfl ?c1 ?c2 ?c3 ?c4 ?c5 ?c6 (s1.heap.size+1) ?c7 ?_)
 case c1=>
  have e:=kb (s1.setCell ⟨b,1,none⟩ (.slice (some ⟨g1,0,none⟩) (n1+1) zj)) 33 #[.slice (some ⟨w.heap.size,0,none⟩) l.length l.length];rw[yC] at e;exact e
 case c2=>intro u hu;simp at hu;subst hu;rfl
 case c3=>decide
 case c4=>unfold maxLen;omega
 case c5=>omega
 case c6=>simp;omega
 case c7=>simp
 intro g2 Fq s3 abu abv JX lk;have JY:(s1.setCell ⟨b,1,none⟩ (.slice (some ⟨g1,0,none⟩) (n1+1) zj)).grownBy s3 v2.ownBlock:=aC (aQ _ _ _) abv;have SP:g2≠b:=by
  rcases JX with h|h
  ·intro e;subst e;exact Hb.out.2.1 h
  ·omega
 have g2o:v2.ownBlock=some g2\/w.heap.size<g2:=JX.imp id (fun h=>by omega);have g12:g1≠g2:=by
  rcases CK.out.2.2 with h|h
  ·have l1:=Ho.out.1 _ h
   rcases JX with h' |h'
   ·intro e;subst e;exact Hb.out.2.2 _ h h'
   ·omega
  ·rcases JX with h' |h'
   ·have l2:=Ho.out.2 _ h'
    omega
   ·omega
 have B4:LW s3 b ps (.slice (some ⟨g1,0,none⟩) (n1+1) zj) v2 bN nn ex CJ ts mark os:=fU.out.kept JY (fun e=>Hb.out.2.1 e.symm);have C4:=C3.out.kept JY (fun e=>by have:=Ho.out.2 _ e.symm;omega);have R1:=iF Q1.out JY (fun g hg e=>by
  injection hg with hg;subst hg;rcases CK.out.2.2 with h|h
  ·exact Hb.out.2.2 _ h e.symm
  ·have:=Ho.out.2 _ e.symm
   have h':g1=w1.heap.size+1:=h;simp only at this;omega)
 have F4:=F3.out.iK JY (fun g hg=>.inr (.inr (.inr hg)));have b3:s3.cell? ⟨b,2,none⟩=some v2:=B4.cell 2;have f3:=B4.free 2;have j5:=bD s3 b 2 (.slice (some ⟨g2,0,none⟩) (n2+1) Fq);have B5:LW (s3.setCell ⟨b,2,none⟩ (.slice (some ⟨g2,0,none⟩) (n2+1) Fq)) b ps (.slice (some ⟨g1,0,none⟩) (n1+1) zj) (.slice (some ⟨g2,0,none⟩) (n2+1) Fq) bN nn ex CJ ts mark os:=B4.set 2 (.slice (some ⟨g2,0,none⟩) (n2+1) Fq);have FZ:=CK.out.1;have K1:=ae (iF R1 j5 (fun g hg e=>by have h1:some g1=some g:=hg;injection h1 with h1;injection e with e;exact FZ (h1.trans e)));have K2:=ae (iF abu j5 (fun g hg e=>by have h1:some g2=some g:=hg;injection h1 with h1;injection e with e;exact SP (h1.trans e)));have C5:=ae (C4.kept j5 (by simp;omega));have F5:=ae (F4.iK j5 (fun g hg=>.inr (.inl (by injection hg with hg;exact hg.symm))));have oE:=ae B5;have dU:=ae (And.intro SP (And.intro g2o g12));clear abu abv JY JX B4 C4 R1 F4 B5 j5 Q1 Q2 C3 F3 fU SP g2o g12 FZ b1 f1 b2;go_wp2;go_end0;exact⟨rfl,g1,zj,g2,Fq,oE.out,K1.out,K2.out,C5.out,CK.out.2.1,dU.out.2.1,CK.out.1,dU.out.1,dU.out.2.2,F5.out⟩
theorem aby{md:M.Md}(h1:O.iP md){ins:List (List Int)}(hi:D.jP md ins=true):∀l∈D.run md ins,l.length<=512:=by
 intro l hl;have S:=H.M7 h1 hi;rw[<-O.XB h1 hi] at hl;obtain⟨n,hn,rfl⟩:=List.mem_map.mp hl;obtain⟨av,k2⟩:=S.aK n hn;have e1:=S.s9 n av.1 av.2.1 k2;have e2:=(S.kQ n av.1 av.2.1).mn;omega
theorem abz(p:Nat)(md:M.Md)(a:Option Addr)(n c:Nat)(ins:List (List Int))(w:World)(hP:Pl w p md)(hI:rZ w (.slice a n c) ins)(hl:∀l∈ins,l.length<=9223372036854775807)(hn:ins.length<=9223372036854775807):
 Calls prog 36 #[.pointer (some ⟨p,0,none⟩),.slice a n c] w fun e w'=>w.grownBy w' none /\
   ((D.jP md ins=false/\e=.returned (.tuple #[.slice none 0 0,.int .i64 7])) \/
    (D.jP md ins=true/\∃G gs,e=.returned (.tuple #[.slice (some ⟨G,0,none⟩) md.aK.length md.aK.length,.int .i64 0])/\Od w' w.heap.size G gs (D.run md ins))):=by
 obtain rfl:=hI.len;obtain⟨j0,hj,vZ,qq,wg⟩:=info_parts Tryz.oO;have HP:=ae hP;have HI:=ae hI;have HC:=ae (an0 p md a ins.length c ins w hP hI hl hn);have SH:=hP;obtain⟨m,an,cn,ab,cb,-,-,hB,hM,-,-,-,h1⟩:=SH;have q0:w.cell? ⟨p,0,none⟩=some (.pointer (some ⟨m,0,none⟩)):=hB.cell 0;have Q0:=ae q0;have HM:=ae hM;have H1:=ae h1;have tF:=hB.lt;clear hB hM h1 hP hI hl;go_enter func36,ntmps36;go_wp2_with fail;refine HC.out.mono ?_;rintro e w1⟨rfl,rfl⟩;clear HC
 cases hh:D.jP md ins with
 |false=>
  have Hh:=ae hh;clear hh;go_wp2
  go_ret2
  exact⟨fZ _ _,.inl ⟨Hh.out,rfl⟩⟩
 |true=>
  have Hh:=ae hh;have S:=(H.M7 H1.out hh).jE;have A:=H.FI S;have HA:Hid (H.Al (pM md) (O.fM md ins) (H.fO (pM md)) (pD md) (pB md)):=A;have abA:Hid (H.D8 (pM md) (O.fM md ins) ins):=(H.ak3 H1.out hh).kept (H.X7 (H.M7 H1.out hh));have SQ:Hid ((pM md).aK.map (D.bW (O.fM md ins))=D.run md ins):=H.ak4 H1.out hh;have my:=ae (show ins.length=H.fO (pM md) by
   rw[CF H1.out];unfold D.jP at hh;rw[eX,beq_iff_eq] at hh;have:=congrArg List.length hh.1
   rwa [jb] at this)
  have ax1:=(AV H1.out).2.2.2.2;have iq:(pM md).au.length<=24:=S.nt;have kl:(pM md).ag.length<=16:=S.no;have hen:0<=H.gU (pB md)/\H.gU (pB md)<=2000000:=RC (AV H1.out).1 _;have aoi:H.gU (pB md)<=60000:=by
   have e1:=A.L.sum;have hs:∀(l:List H.Bf),(∀b∈l,0<=b.c/\b.c<=512)->0<=H.sumC l/\H.sumC l<=512*(l.length:Int):=by
    intro l
    induction l with
    |nil=>intro _;simp[H.sumC]
    |cons x l ih=>
     intro h;have h1:=h x pC;have h2:=ih fun b hb=>h b (sZ _ hb);simp only[H.sumC,pN];omega
   have e2:=hs (pB md) fun b hb=>by
    obtain⟨i,hi⟩:=mQ hb;have fq:i<(pD md).lv.length:=by rw[<-show(pB md).length=(pD md).lv.length from A.L.len];exact M.bP hi
    obtain⟨-,f2,f3,-⟩:=A.gI fq;have g2:1<=b.c:=by rw[<-getD_some (d:=H.aV) hi];exact f2
    have g3:b.c<=512:=by rw[<-getD_some (d:=H.aV) hi];exact f3
    omega
   have e3:=(AV H1.out).2.2.1;have e4:H.gU (pB md)<=H.sumC (pB md):=e1;omega
  clear hh S A;go_wp2_with fail;refine(ZX p md w1 HP.out).mono ?_;rintro e w2⟨rfl,aM⟩;obtain⟨E,hE⟩:=fT hen.1;have HE:=ae hE;rw[hE];have hE1:E<=60000:=by omega
  have dU:=ae aM;clear aM hE hen aoi;go_wp2_with(at_make;refine qg _ rfl _ _ 33 rfl w2.heap.size 3 j0 (.int .i64 0) 1 underlying33 hj vZ qq _ _ _ _ E rfl rfl rfl rfl ?c1 ?c2 ?c3 ?_)
  case c1=>rw[wg];omega
  case c2=>unfold maxLen;omega
  case c3=>exact bj _
  intro w3 cB aU;have iA:=xl cB;have qi:=dU.out.size;have JP:=aU.size;have bm:=aQ w3 (.cells #[.pointer (some ⟨p,0,none⟩),.slice (some ⟨w2.heap.size,0,none⟩) E E] 134) none;have HR4:Hid (Rw (w3.alloc (.cells #[.pointer (some ⟨p,0,none⟩),.slice (some ⟨w2.heap.size,0,none⟩) E E] 134)) w3.heap.size p w2.heap.size (List.replicate E 0)):=by
   refine⟨?_,?_,by rw[vT];omega⟩
   ·rw[vT];exact aj.bA w3 134 _
   ·have e:=iA.kept bm (by simp)
    rw[List.map_replicate];exact e
  have HJ0:Hid (H.AJ (pM md) (O.fM md ins) (pB md) 0 (List.replicate E 0)):=by
   have e:=H.AJ.start (pM md) (O.fM md ins) (pB md);rw[HE.out,eC] at e;exact e
  have fC:=ae (aC dU.out (aC aU bm));have anS:w2.heap.size<w3.heap.size:=iA.lt;clear cB aU bm iA;go_wp2;go_loopw[40] (fun i wr=>∃(k:Nat) (cells:List Int),k<=ins.length/\i=.int .i64 k/\Rw wr w3.heap.size p w2.heap.size cells/\Hid (H.AJ (pM md) (O.fM md ins) (pB md) k cells)/\w1.grownBy wr none) (fun i _=>ins.length-(intOf i).toNat)
  case atStart=>exact⟨0,List.replicate E 0,bK _,rfl,HR4.out,HJ0,fC.out⟩
  case round=>
   obtain⟨k,cells,hk,rfl,jw,HJ,aF⟩:=hrel;have bH:=ae aF;by_cases aJ:k<ins.length
   ·obtain⟨l,hv⟩:∃l,ins[k]?=some l:=⟨_,aS aJ⟩
    obtain⟨g,ao,c',rfl,d1,JQ⟩:=(HI.out.Z aF).get k l hv;have hkI:k<H.fO (pM md):=by rw[<-my.out];exact aJ
    obtain⟨dh,kz⟩:=H.X4 HA.out abA.out hkI hv;obtain⟨f1,f2,f3,f4⟩:=HA.out.gI dh;have FW:k<(pB md).length:=by rw[show(pB md).length=(pD md).lv.length from HA.out.L.len];exact dh
    obtain⟨x,hx⟩:∃x,(pB md)[k]?=some x:=⟨_,aS FW⟩;have yZ:0<=x.a:=by rw[<-getD_some (d:=H.aV) hx];exact f1
    have AY:1<=x.c:=by rw[<-getD_some (d:=H.aV) hx];exact f2
    have JZ:x.e<=H.gU (pB md):=by rw[<-getD_some (d:=H.aV) hx];exact f4
    have y9:x.a+x.c<=cells.length:=by rw[HJ.out.len];exact JZ
    have abF:(l.length:Int)=x.c:=by rw[<-getD_some (d:=H.aV) hx];exact kz
    have HS:Hid (H.AJ (pM md) (O.fM md ins) (pB md) (k+1) (H.pJ cells x.a.toNat l)):=by
     have e:=H.AJ.step HA.out abA.out HJ.out hkI hv;rw[getD_some hx] at e;exact e
    have HC:=ae (abh w3.heap.size p w2.heap.size md cells l k x ao l.length c' wr (HP.out.Z aF) jw hx yZ AY y9 abF JQ);clear hv JQ jw hx f1 f2 f3 f4 JZ yZ AY y9 kz abF aF;go_wp2_with fail;refine HC.out.mono ?_;rintro e w5⟨rfl,j9,cK⟩;have EA:=ae j9;have iC:=ae (dF bH.out cK qi);clear j9 cK HC d1;go_wp2;go_roundw
    case rel=>exact⟨k+1,H.pJ cells x.a.toNat l,by omega,by go_num,EA.out,HS,iC.out⟩
    case measure=>simp[intOf];omega
   ·obtain rfl:k=ins.length:=by omega
    have J0:Hid (H.AI (pM md) (O.fM md ins) (pD md) (pB md) 0 cells):=by
     have e:=HJ.out;rw[my.out] at e;exact H.AJ.done HA.out e
    have AR:=aG aF Q0.out;obtain⟨a1,c1,a2,c2,a3,c3,re,-,hO,-⟩:=HM.out;have q1':=aG aF (show w1.cell? ⟨m,1,none⟩=some (.slice a2 (pM md).ag.length c2) from re.cell 1);have HO:=ae hO;have F0:=ae jw;clear re hO jw aF HJ HJ0 HR4 fC;go_wp2;clear AR q1';go_loopw[58] (fun i wr=>∃(k:Nat) (cells:List Int),k<=(pM md).ag.length/\i=.int .i64 k/\Rw wr w3.heap.size p w2.heap.size cells/\Hid (H.AI (pM md) (O.fM md ins) (pD md) (pB md) k cells)/\w1.grownBy wr none) (fun i _=>(pM md).ag.length-(intOf i).toNat)
    case atStart=>exact⟨0,cells,bK _,rfl,F0.out,J0,bH.out⟩
    case round=>
     clear F0 J0 bH;obtain⟨k,cells,hk,rfl,jw,J8,aF⟩:=hrel;have bH:=ae aF;by_cases aJ:k<(pM md).ag.length
     ·obtain⟨o,ho⟩:∃o,(pM md).ag[k]?=some o:=⟨_,aS aJ⟩
      obtain⟨g,ao,pn,cp,rfl,gQ,-,tr,hR⟩:=(HO.out.Z aF).get k o ho;have HF:=ae (H.akT HA.out J8.out ho);have Es:=ae (H.X3 HA.out ho);have eJ:=ae (H.AI.step HA.out J8.out ho);have kz:(cells.length:Int)=H.gU (pB md):=J8.out.len;have EC:=ae kz;have F0:=ae jw;have AM:=ae tr;have lC:=ae (aj.bA wr 142 (aO o (.slice ao pn cp)));have dN:=ae (aQ wr (.cells (aO o (.slice ao pn cp)) 142) none);clear ho kz jw tr aF;go_wp2_with(first|(refine wpList_load_mid rfl 142 _ rfl g (k*16) rfl (aO o (.slice ao pn cp)).toList _ hR underlying142 rfl Tryz.de ?_)|(refine aaY rfl 142 _ _ rfl wr.heap.size (aO o (.slice ao pn cp)) rfl rfl 142 (aR 0 0 0 0 0 0 0 0 false (.slice none 0 0) 0 0 0 0 0 0) (aj.bA wr 142 _) Tryz.de rfl (oe ..) ?_;rw[World.setRow_alloc_new];generalize wr.alloc (.cells (aO o (.slice ao pn cp)) 142)=w6 at *;have AT:w6.cell? ⟨wr.heap.size,1,none⟩=some (.int .i64 o.a):=lC.out.cell 1));refine(SG w3.heap.size p w2.heap.size md cells o.a wr w6 (HP.out.Z bH.out) F0.out dN.out EC.out).mono ?_;rintro e w7⟨⟨aa,ca,rfl,hRa⟩,dJ⟩;have HRa:=ae hRa;have lA:=ae (aC dN.out dJ);have wj:=ae (lC.out.kept dJ (by simp));have JV:w7.cell? ⟨wr.heap.size,2,none⟩=some (.int .i64 o.b):=wj.out.cell 2;clear hRa dJ AT lC dN hR;go_wp2_with fail;refine(SG w3.heap.size p w2.heap.size md cells o.b wr w7 (HP.out.Z bH.out) F0.out lA.out EC.out).mono ?_;rintro e w8⟨⟨ab',cb',rfl,hRb⟩,pa⟩;have HRb:=ae hRb;have ED:=aC lA.out pa;have fD:=ae ED;have FR:=wj.out.kept pa (by simp);have qp:w8.cell? ⟨p,0,none⟩=some (.pointer (some ⟨m,0,none⟩)):=aG (aC bH.out ED) Q0.out;obtain⟨k0,k1,k2,k3,k4,k5,k6,k7,k8,k9,AD,yU,AE,AF,AG,AH⟩:=dS (show aj w8 wr.heap.size 142 (oo o (.slice ao pn cp)) from FR);have jy:=ae FR;have hFo:O.jQ (pM md) o (jg md cells o.a) (jg md cells o.b):=HF.out.1
      have HC:=ae (Ys m (pM md) o ao pn cp aa (jg md cells o.a).length ca (jg md cells o.a) ab' (jg md cells o.b).length cb' (jg md cells o.b) w8.drew ((HM.out.Z (aC bH.out ED)).Z (gE _ _)) (by omega) (nC (eY (eY AM.out ED) (gE _ none)) (bK _)) ((HRa.out.Z ED).Z (gE _ none)) ((HRb.out.Z ED).Z (gE _ none)) hFo);have yJ:Hid (O.iu (pM md) o (jg md cells o.a) (jg md cells o.b)=D.bW (O.fM md ins) o.to):=HF.out.2;rw[yJ.out] at HC;clear hRb pa ED FR JV wj lA hFo HF HRa HRb AM;obtain⟨t0,t1,hb,fI,bF⟩:=Es.out;have FW:H.fO (pM md)+k<(pB md).length:=by rw[show(pB md).length=(pD md).lv.length from HA.out.L.len];exact fI
      obtain⟨x,hx⟩:∃x,(pB md)[H.fO (pM md)+k]?=some x:=⟨_,aS FW⟩;obtain⟨f1,f2,f3,f4⟩:=HA.out.gI fI;have yZ:0<=x.a:=by rw[<-getD_some (d:=H.aV) hx];exact f1
      have AY:1<=x.c:=by rw[<-getD_some (d:=H.aV) hx];exact f2
      have JZ:x.e<=H.gU (pB md):=by rw[<-getD_some (d:=H.aV) hx];exact f4
      have y9:x.a+x.c<=cells.length:=by rw[EC.out];exact JZ
      have qk:((D.bW (O.fM md ins) o.to).length:Int)=x.c:=by rw[<-getD_some (d:=H.aV) hx];exact bF
      have Of:Hid (je md o.to=((H.fO (pM md)+k:Nat):Int)):=by unfold Hid je;rw[ak (by omega)];exact hb
      have Hx:Hid ((pB md)[H.fO (pM md)+k]?=some x/\0<=x.a/\1<=x.c/\x.a+x.c<=cells.length/\((D.bW (O.fM md ins) o.to).length:Int)=x.c):=⟨hx,yZ,AY,y9,qk⟩;have gL:Hid (H.AI (pM md) (O.fM md ins) (pD md) (pB md) (k+1) (H.pJ cells x.a.toNat (D.bW (O.fM md ins) o.to))):=by
       have e:=eJ.out;rw[getD_some hx] at e;exact e
      clear hb fI bF f1 f2 f3 f4 yZ AY y9 JZ qk hx FW eJ Es t0 t1 yJ;generalize D.bW (O.fM md ins) o.to=dM at *;go_wp2
      go_region_with (go_at_call 87;refine HC.out.mono ?_;rintro e w9⟨⟨g9,c9,rfl,kh⟩,jX⟩;have lD:=ae kh;have jh:=ae (aC (gE _ _) jX);clear kh jX)
      all_goals
       have NU:w9.cell? ⟨wr.heap.size,5,none⟩=some (.int .i64 o.to):=aG jh.out k5;have rj:=ae (aC fD.out jh.out);have SR:=ae (aC bH.out rj.out);clear k0 k1 k2 k3 k4 k5 k6 k7 k8 k9 AD yU AE AF AG AH qp HC;have tG:=ae (N5 p md o.to w9 (HP.out.Z SR.out));have se:=ae (abh w3.heap.size p w2.heap.size md cells dM (H.fO (pM md)+k) x (some ⟨g9,0,none⟩) dM.length c9 w9 (HP.out.Z SR.out) (F0.out.Z rj.out) Hx.out.1 Hx.out.2.1 Hx.out.2.2.1 Hx.out.2.2.2.1 Hx.out.2.2.2.2 lD.out.sl);rw[Of.out] at tG;go_wp2_with fail;refine tG.out.mono ?_;rintro e Mq⟨rfl,rfl⟩;clear tG;go_wp2_with fail;refine se.out.mono ?_;rintro e RJ⟨rfl,abL,abM⟩;have aom:=ae abL;have aon:=ae (dF SR.out abM qi);clear abL abM se NU;go_wp2;go_roundw
       case rel=>exact⟨k+1,H.pJ cells x.a.toNat dM,by omega,by go_num,aom.out,gL,aon.out⟩
       case measure=>simp[intOf];omega
     ·obtain rfl:k=(pM md).ag.length:=by omega
      have kz:(cells.length:Int)=H.gU (pB md):=J8.out.len;have SS:∀n∈(pM md).aK,jg md cells n=D.bW (O.fM md ins) n:=fun n hn=>H.akU HA.out J8.out hn;have me:∀n∈(pM md).aK,1<=(jg md cells n).length/\(jg md cells n).length<=512:=fun n hn=>by
       rw[SS n hn];obtain⟨av,k2⟩:=HA.out.S.aK n hn;have e1:=HA.out.S.s9 n av.1 av.2.1 k2;have d:=HA.out.S.kQ n av.1 av.2.1;have e2:=d.mn;have e3:1<=M.cellsOf (M.aq (pM md) n):=by
        unfold M.cellsOf;have:=Int.mul_le_mul d.h0 d.w0 (by decide) (by have:=d.h0;omega);have:=Int.mul_le_mul this d.c0 (by decide) (by have h1:=d.h0;have h2:=d.w0;exact lg (by omega) (by omega));omega
       omega
      have CL:Hid ((pM md).aK.map (jg md cells)=D.run md ins):=by
       unfold Hid;rw[<-SQ.out];exact List.map_congr_left SS
      have SU:Hid ((pM md).aK.length=md.aK.length):=by unfold Hid pM;rw[H.Nf]
      have HC:=ae (aob w3.heap.size p w2.heap.size md cells wr (HP.out.Z aF) jw kz me);rw[CL.out,SU.out] at HC;clear jw aF kz SS me;go_wp2_with fail;refine HC.out.mono ?_;rintro e w5⟨⟨G,gs,rfl,hF⟩,cK⟩;have HF:Hid (Od w5 w1.heap.size G gs (D.run md ins)):=⟨hF.len,hF.out,jN bH.out.size hF.base,hF.AZ,hF.aT,hF.gy⟩;have iC:=ae (aC bH.out cK);clear hF cK HC;go_wp2
      go_ret2
      exact⟨iC.out,.inr ⟨Hh.out,G,gs,rfl,HF.out⟩⟩
namespace H
theorem dH.Og{m:M.Md}{C:List (List Int)}(s:dH m C){l r:List M.Op}{c o:M.Op}(e:m.ag=l++c::r)(ho:o=c\/o∈r)(hr:o.to∈cM c):False:=by
 have hm:o∈m.ag:=by rw[e];rcases ho with rfl|h<;>simp_all
 have h3:=(s.to o hm).2.2;have iM:=s.xC;rw[e] at iM;have:=(Ord.append.mp iM).2.1 o.to hr;have cY:=this.2.2 h3;rw[List.nil_append] at cY;have nd:=s.nd;rw[e,lK,List.map_cons] at nd;have h4:=(List.nodup_append.mp nd).2.2;refine h4 _ cY o.to ?_ rfl;rcases ho with rfl|h
 ·exact pC
 ·exact sZ _ (List.mem_map_of_mem h)
theorem abN{o:M.Op}{l:List M.Op}(h:o∈l):∃a b,l=a++o::b:=List.append_of_mem h
def wE(m:M.Md)(o:M.Op):Prop:=∃n∈cM o,(M.aq m n).af=0\/(M.aq m n).af=3
theorem aoo{m:M.Md}{o:M.Op}(h:rP m o=false):wE m o:=by
 unfold rP at h;rw[List.all_eq_false] at h;obtain⟨n,hn,h⟩:=h;refine⟨n,hn,?_⟩;unfold pF at h;by_cases c:(M.aq m n).af=0
 ·exact .inl c
 ·exact .inr (by simpa[c] using h)
theorem SV{C:List (List Int)}:∀(rest:List M.Op) (m:M.Md) (left:List M.Op),dH (wo m (left++rest)) C->(∀o∈left,wE m o)->∀o∈(rest.foldl nK (m,left)).2,wE (rest.foldl nK (m,left)).1 o
 | [],m,left,_,hl=>hl
 |o::rest,m,left,h,hl=>by
  rw[List.foldl_cons];unfold nK;by_cases hk:rP m o=true
  ·rw[ay hk]
   obtain⟨e,s⟩:=h.MW (l:=left) (r:=rest) (o:=o) rfl hk;have e':O.iu m o (M.aq m o.a).data (M.aq m o.b).data=D.bW C o.to:=e;rw[e'];refine SV rest _ left s fun p hp=>?_;obtain⟨n,hn,rL⟩:=hl p hp;refine⟨n,hn,?_⟩;obtain⟨t0,t1,-⟩:=h.to o (by show o∈left++o::rest;simp);have t1':o.to<m.au.length:=t1;rw[MV _ t0 t1'];have ne:n≠o.to:=by
    rintro rfl;obtain⟨a,b,rfl⟩:=abN hp;exact h.Og (l:=a) (r:=b++o::rest) (c:=p) (o:=o) (by show a++p::b++o::rest=_;simp) (.inr (by simp)) hn
   rw[ak ne];exact rL
  ·rw[ak hk]
   refine SV (C:=C) rest m (left++[o]) ?_ fun p hp=>?_
   ·rw[j8];exact h
   ·rcases List.mem_append.mp hp with h' |h'
    ·exact hl p h'
    ·rw[List.mem_singleton.mp h'];exact aoo (by simpa using hk)
theorem abO:∀(i:Nat) (m:M.Md) (o:M.Op),o∈(rQ i m).ag->o∈m.ag
 |0,_,_,h=>h
 |i+1,m,o,h=>by
  have h1:=abO i (kF m i) o h;unfold kF at h1
  cases e:m.ag[i]? with
  |none=>rw[e] at h1;exact h1
  |some p=>
   rw[e] at h1;have h1:o∈(if cJ m p.to=0 then {m with ag:=m.ag.eraseIdx i} else m:M.Md).ag:=h1
   split at h1
   ·exact List.mem_of_mem_eraseIdx h1
   ·exact h1
theorem abP{m:M.Md}:∀(rest left:List M.Op) (P:M.Op->Prop),(∀s c:M.Op,P s->P (eV s c))->(∀o∈left,P o)->(∀o∈rest,P o)->∀o∈rest.foldl (joinStep m) left,P o
 | [],_,_,_,hl,_=>hl
 |c::rest,left,P,hP,hl,hr=>by
  rw[List.foldl_cons];refine abP rest _ P hP (fun o ho=>?_) fun o ho=>hr o (sZ _ ho);unfold joinStep at ho
  cases hh:oy m left c with
  |none=>
   rw[hh] at ho;rcases List.mem_append.mp ho with h|h
   ·exact hl o h
   ·rw[List.mem_singleton.mp h];exact hr c pC
  |some i=>
   rw[hh] at ho;obtain⟨j,hj⟩:=mQ ho;have rK:(left.modify i fun s=>eV s c)[j]?=some o:=hj;rw[List.getElem?_modify] at rK;obtain⟨s,hs,he⟩:=Option.map_eq_some_iff.mp rK
   split at he
   ·rw[<-he];exact hP s c (hl s (bU hs))
   ·rw[<-he];exact hl s (bU hs)
theorem aoq{m:M.Md}(h:∀o∈m.ag,wE m o):∀o∈(drop m).ag,wE (drop m) o:=by
 intro o ho;obtain⟨n,hn,hk⟩:=h o (abO _ _ _ ho);refine⟨n,hn,?_⟩;have e:M.aq (drop m) n=M.aq m n:=by unfold M.aq;unfold drop;rw[(Nd _ _).1]
 rw[e];exact hk
theorem aor{m:M.Md}(h:∀o∈m.ag,wE m o):∀o∈(oY m).ag,wE (oY m) o:=
 abP (m:=m) m.ag [] (wE m) (fun _ _ h=>h) (fun _ h=>aN h (by simp)) h
theorem aos{m:M.Md}(h:∀o∈m.ag,wE m o):∀o∈(mP m).ag,wE (mP m) o:=by
 intro o ho;obtain⟨n,hn,hk⟩:=h o ho;exact⟨n,hn,by rw[tj];exact hk⟩
theorem aot{m:M.Md}{C:List (List Int)}(s:dH m C):∀o∈(jE m).ag,wE (jE m) o:=
 aos (aor (aoq (SV m.ag m [] s fun _ h=>aN h (by simp))))
theorem aou{m:M.Md}{C:List (List Int)}(s:dH m C){i:Nat}(h:∀(j:Nat) o,i<j->m.ag[j]?=some o->cJ m o.to≠0):∀(j:Nat) o,i<=j->(kF m i).ag[j]?=some o->cJ (kF m i) o.to≠0:=by
 intro j o hj ho
 cases e:m.ag[i]? with
 |none=>
  have e':kF m i=m:=by unfold kF;rw[e]
  rw[e'] at ho ⊢;have h1:=M.bP ho;have h2:¬i<m.ag.length:=fun c=>by rw[aS c] at e;exact aN e (by simp)
  omega
 |some p=>
  by_cases u:cJ m p.to=0
  ·rw[YI e u] at ho ⊢
   have iM:(m.ag.eraseIdx i)[j]?=some o:=ho;rw[List.getElem?_eraseIdx] at iM;rw[ak (by omega)] at iM;have h1:=h (j+1) o (by omega) iM;have sp:=IW e;have om:o∈m.ag.drop (i+1):=by
    refine bU (i:=j-i) ?_;rw[List.getElem?_drop];rw[<-iM];congr 1;omega
   have nr:o.to ∉ cM p:=fun hr=>s.Og sp.1 (.inr om) hr;have c0:(cM p).count o.to=0:=List.count_eq_zero.mpr nr;unfold cJ at h1 ⊢;rw[sp.1,vM,c0] at h1;show iQ (m.ag.eraseIdx i) o.to+m.aK.count o.to≠0;rw[sp.2];exact h1
  ·rw[YJ e u] at ho ⊢
   by_cases c:i=j
   ·subst c;rw[e] at ho;injection ho with ho;rw[<-ho];exact u
   ·exact h j o (by omega) ho
theorem abQ{C:List (List Int)}:∀(i:Nat) (m:M.Md),dH m C->(∀(j:Nat) o,i<=j->m.ag[j]?=some o->cJ m o.to≠0)->∀o∈(rQ i m).ag,cJ (rQ i m) o.to≠0
 |0,m,_,h=>fun o ho=>by
  obtain⟨j,hj⟩:=mQ ho;exact h j o (bK _) hj
 |i+1,m,s,h=>abQ i (kF m i) (s.kF i) (aou s fun j o hj ho=>h j o (by omega) ho)
theorem aov{m:M.Md}{C:List (List Int)}(s:dH m C):∀o∈(drop m).ag,cJ (drop m) o.to≠0:=
 abQ m.ag.length m s fun j o hj ho=>by have:=M.bP ho;omega
theorem SW{m:M.Md}{C:List (List Int)}:∀(rest left:List M.Op),dH (wo m (left++rest)) C->(∀n,cJ (wo m (left++rest)) n<=cJ m n)->(∀o∈left++rest,cJ (wo m (left++rest)) o.to=cJ m o.to) ->
  (∀c∈left,c.af=7->cJ m c.a=1->∀t∈left,¬(te t=true/\t.to=c.a)) ->
  (∀o∈rest.foldl (joinStep m) left,cJ (wo m (rest.foldl (joinStep m) left)) o.to=cJ m o.to)/\(∀c∈rest.foldl (joinStep m) left,c.af=7->cJ m c.a=1->∀t∈rest.foldl (joinStep m) left,¬(te t=true/\t.to=c.a))
 | [],left,h,_,he,hc=>by rw[List.append_nil] at he;exact⟨he,hc⟩
 |o::rest,left,h,hu,he,hc=>by
  rw[List.foldl_cons];have hs:joinStep m left o=match oy m left o with|some i=>left.modify i (fun s=>eV s o)|none=>left++[o]:=rfl
  have SX:∀c∈left,o.to ∉ cM c:=by
   intro c kz hr;obtain⟨a,b,rfl⟩:=abN kz;exact h.Og (l:=a) (r:=b++o::rest) (c:=c) (o:=o) (by show a++c::b++o::rest=_;simp) (.inr (by simp)) hr
  have aow:o.to ∉ cM o:=fun hr=>h.Og (l:=left) (r:=rest) (c:=o) (o:=o) rfl (.inl rfl) hr
  cases hh:oy m left o with
  |none=>
   rw[hs,hh];refine SW (C:=C) rest (left++[o]) ?_ (fun n=>?_) (fun p hp=>?_) fun c kz k7 u1 t ht=>?_
   ·rw[j8];exact h
   ·have:=hu n;rw[j8];exact this
   ·rw[j8] at hp ⊢;exact he p hp
   ·rintro ⟨hr,ha⟩
    rcases List.mem_append.mp kz with h1|h1
    ·rcases List.mem_append.mp ht with h2|h2
     ·exact hc c h1 k7 u1 t h2 ⟨hr,ha⟩
     ·rw[List.mem_singleton.mp h2] at ha
      exact SX c h1 (by rw[ha];exact vL c)
    ·rw[List.mem_singleton.mp h1] at k7 u1 ha
     rcases List.mem_append.mp ht with h2|h2
     ·unfold oy at hh
      rw[ay ⟨k7,u1⟩,List.findIdx?_eq_none_iff] at hh;have:=hh t h2;unfold vK at this;rw[hr,ha] at this;simp at this
     ·rw[List.mem_singleton.mp h2] at ha
      exact aow (by rw[ha];exact vL o)
  |some i=>
   rw[hs,hh];obtain⟨k7,u1,s,hi,hr,ha⟩:=Rn hh;obtain⟨e,-⟩:=IW hi;have hl:i=(left.take i).length:=by rw[xE];have:=M.bP hi;omega
   generalize hL:left.take i=l at *;generalize left.drop (i+1)=mid at *;subst hl;subst e;have hm:(match some l.length with|some i=>(l++s::mid).modify i (fun s=>eV s o)|none=>l++s::mid++[o])=l++eV s o::mid:=XJ l mid s _;rw[hm];have e1:l++s::mid++o::rest=l++s::(mid++o::rest):=by simp
   have e2:l++eV s o::mid++rest=l++eV s o::(mid++rest):=by simp
   have u2:cJ (wo m (l++s::mid++o::rest)) o.a=1:=by
    have h1:=hu o.a;have h2:0<cJ (wo m (l++s::mid++o::rest)) o.a:=tf.mpr (.inl ⟨o,by show o∈_++_;simp,vL o⟩);omega
   have J:=dH.eV h (l:=l) (mid:=mid) (rest:=rest) (s:=s) (c:=o) e1 hr k7 ha u2;have ro:cM o=[o.a]:=by unfold cM;rw[k7,ak (by decide),ak (by decide)]
   have ue:∀n,cJ (wo m (l++eV s o::mid++rest)) n+(cM o).count n=cJ (wo m (l++s::mid++o::rest)) n:=by
    intro n;unfold cJ;have b1:iQ (wo m (l++s::mid++o::rest)).ag n=iQ (l++(mid++rest)) n+(cM s).count n+(cM o).count n:=by
     show iQ (l++s::mid++o::rest) n=_;rw[e1,vM,<-j8 l mid,vM,j8];omega
    have b2:iQ (wo m (l++eV s o::mid++rest)).ag n=iQ (l++(mid++rest)) n+(cM s).count n:=by
     show iQ (l++eV s o::mid++rest) n=_;rw[e2,vM];rfl
    rw[b1,b2];show _+m.aK.count n+_=_+m.aK.count n;omega
   have nd:=h.nd;have nd':((l++s::(mid++o::rest)).map (·.to)).Nodup:=by rw[<-e1];exact nd
   have Oh:∀p∈l++(mid++o::rest),p.to≠o.a:=by
    intro p hp hpa;rw[lK,List.map_cons] at nd';obtain⟨-,n2,n3⟩:=List.nodup_append.mp nd';rcases List.mem_append.mp hp with hp|hp
    ·exact n3 _ (List.mem_map_of_mem hp) s.to pC (by rw[hpa,ha])
    ·exact(List.nodup_cons.mp n2).1 (by rw[ha,<-hpa];exact List.mem_map_of_mem hp)
   have eqs:∀n,n≠o.a->cJ (wo m (l++eV s o::mid++rest)) n=cJ (wo m (l++s::mid++o::rest)) n:=by
    intro n hn;have:=ue n;rw[ro,List.count_singleton,ak (by simpa using fun h=>hn h.symm)] at this;omega
   have J9:∀p,p∈l++eV s o::mid++rest->p=eV s o\/p∈l++(mid++o::rest):=by
    intro p hp;simp only[Ax,List.mem_cons] at hp ⊢;rcases hp with(h|h|h)|h
    ·exact .inr (.inl h)
    ·exact .inl h
    ·exact .inr (.inr (.inl h))
    ·exact .inr (.inr (.inr (.inr h)))
   refine SW (C:=C) rest (l++eV s o::mid) ?_ (fun n=>?_) (fun p hp=>?_) fun c kz Ka u1' t ht=>?_
   ·rw[e2];exact J
   ·have:=ue n;have:=hu n;omega
   ·rcases J9 p hp with rfl|iJ
    ·have hm:o∈l++s::mid++o::rest:=by simp
     show cJ _ o.to=cJ m o.to;rw[eqs o.to (Oh o (by simp)),he o hm]
    ·have hm:p∈l++s::mid++o::rest:=by
      rw[e1];simp only[Ax,List.mem_cons] at iJ ⊢;rcases iJ with h|h|h|h
      ·exact .inl h
      ·exact .inr (.inr (.inl h))
      ·exact .inr (.inr (.inr (.inl h)))
      ·exact .inr (.inr (.inr (.inr h)))
     rw[eqs p.to (Oh p iJ),he p hm]
   ·rintro ⟨rY,Oi⟩
    have inl:∀p,p∈l++eV s o::mid->p=eV s o\/p∈l++s::mid/\p.to≠o.a:=by
     intro p hp;simp only[Ax,List.mem_cons] at hp;rcases hp with h|h|h
     ·exact .inr ⟨by simp[h],Oh p (by simp[h])⟩
     ·exact .inl h
     ·exact .inr ⟨by simp[h],Oh p (by simp[h])⟩
    rcases inl c kz with rfl|⟨bF,-⟩
    ·have k7s:s.af=7:=Ka
     have u1s:cJ m s.a=1:=u1';rcases inl t ht with rfl|⟨ij,-⟩
     ·have SY:o.to=s.a:=Oi
      exact SX s (by simp) (by rw[SY];exact vL s)
     ·exact hc s (by simp) k7s u1s t ij ⟨rY,Oi⟩
    ·rcases inl t ht with rfl|⟨ij,-⟩
     ·have SY:o.to=c.a:=Oi
      exact SX c bF (by rw[SY];exact vL c)
     ·exact hc c bF Ka u1' t ij ⟨rY,Oi⟩
theorem abV{m:M.Md}:∀(rest left:List M.Op),∀o∈rest.foldl (joinStep m) left,(∃p∈rest,p.to=o.to)\/∃p∈left,p.to=o.to
 | [],left,o,h=>.inr ⟨o,h,rfl⟩
 |c::rest,left,o,h=>by
  rw[List.foldl_cons] at h;rcases abV rest (joinStep m left c) o h with⟨p,hp,e⟩|⟨p,hp,e⟩
  ·exact .inl ⟨p,sZ _ hp,e⟩
  ·unfold joinStep at hp
   cases hh:oy m left c with
   |none=>
    rw[hh] at hp;rcases List.mem_append.mp hp with h1|h1
    ·exact .inr ⟨p,h1,e⟩
    ·rw[List.mem_singleton.mp h1] at e;exact .inl ⟨c,pC,e⟩
   |some i=>
    rw[hh] at hp;obtain⟨j,hj⟩:=mQ hp;have rK:(left.modify i fun s=>eV s c)[j]?=some p:=hj;rw[List.getElem?_modify] at rK;obtain⟨s,hs,he⟩:=Option.map_eq_some_iff.mp rK
    split at he
    ·rw[<-he] at e;exact .inl ⟨c,pC,e⟩
    ·rw[<-he] at e;exact .inr ⟨s,bU hs,e⟩
theorem abW(m:M.Md)(n:Int):cJ (mP m) n=cJ m n:=rfl
theorem aoz{m:M.Md}{C:List (List Int)}(s:dH m C):(∀o∈(jE m).ag,cJ (jE m) o.to≠0) /\
  (∀c∈(jE m).ag,∀t∈(jE m).ag,c.af=7->te t=true->t.to=c.a->cJ (jE m) t.to≠1):=by
 have sd:=s.iR.drop;have hw:=aov s.iR;obtain⟨J1,J2⟩:=SW (m:=drop (iR m)) (drop (iR m)).ag [] sd (fun _=>bj _) (fun _ _=>rfl) (fun _ h=>aN h (by simp));have tos:=abV (m:=drop (iR m)) (drop (iR m)).ag [];refine⟨fun o ho=>?_,fun c hc t ht k7 hr ha=>?_⟩
 ·rw[jE,abW]
  have e:cJ (oY (drop (iR m))) o.to=cJ (drop (iR m)) o.to:=J1 o ho;rw[e];rcases tos o ho with⟨p,hp,ep⟩|⟨p,hp,-⟩
  ·rw[<-ep];exact hw p hp
  ·exact aN hp (by simp)
 ·rw[jE,abW]
  have e:cJ (oY (drop (iR m))) t.to=cJ (drop (iR m)) t.to:=J1 t ht;rw[e];intro h1;exact J2 c hc k7 (by rw[<-ha];exact h1) t ht ⟨hr,ha⟩
end H
structure Sp where
 af:Int
 bS:List Int
 to:Int
namespace T
structure Lf where
 f:Int
 t:Int
 m:Bool
def no:Lf:=⟨0,0,false⟩
def rd(i:Int)(l:List Lf)(b:Int):List Lf:=if 0<=b then l.set b.toNat ⟨(l.getD b.toNat no).f,i,(l.getD b.toNat no).m⟩ else l
def jR(n:Nat)(ins:List Int)(k:Nat):List Lf:=(ins.take k).foldl (fun l x=>l.set x.toNat ⟨-1,-1,true⟩) (List.replicate n no)
def js(i:Int)(l:List Lf)(fs:List Int)(k:Nat):List Lf:=(fs.take k).foldl (rd i) l
def stTo(l0:List Lf)(ss:List Sp):Nat->List Lf
 |0=>l0
 |k+1=>match ss[k]? with
  |some s=>(js k (stTo l0 ss k) s.bS s.bS.length).set s.to.toNat ⟨k,k,true⟩
  |none=>stTo l0 ss k
def mid(n:Nat)(ss:List Sp)(ins:List Int):List Lf:=stTo (jR n ins ins.length) ss ss.length
def uJ(n:Nat)(ss:List Sp)(ins aK:List Int):List Lf:=js ss.length (mid n ss ins) aK aK.length
theorem aoB(i:Int)(l:List Lf)(b:Int):(rd i l b).length=l.length:=by unfold rd;split<;>simp
theorem SZ{β:Type}(f:List Lf->β->List Lf)(hf:∀l b,(f l b).length=l.length):∀(xs:List β) (l:List Lf),(xs.foldl f l).length=l.length
 | [],_=>rfl
 |x::xs,l=>by rw[List.foldl_cons,SZ f hf xs];exact hf l x
theorem Kb(i:Int)(l:List Lf)(fs:List Int)(k:Nat):(js i l fs k).length=l.length:=SZ _ (aoB i) _ _
theorem Oj(n:Nat)(ins:List Int)(k:Nat):(jR n ins k).length=n:=by
 unfold jR;rw[SZ _ (fun l b=>by simp)];simp
theorem Kc(l0:List Lf)(ss:List Sp):∀k,(stTo l0 ss k).length=l0.length
 |0=>rfl
 |k+1=>by
  unfold stTo
  cases ss[k]? with
  |none=>exact Kc l0 ss k
  |some s=>show((js k (stTo l0 ss k) s.bS s.bS.length).set _ _).length=_;rw[kK,Kb];exact Kc l0 ss k
theorem abX(n:Nat)(ss:List Sp)(ins:List Int):(mid n ss ins).length=n:=by unfold mid;rw[Kc,Oj]
theorem aoC(n:Nat)(ss:List Sp)(ins aK:List Int):(uJ n ss ins aK).length=n:=by unfold uJ;rw[Kb,abX]
theorem abY{n:Nat}{ins:List Int}{k:Nat}{x:Int}(h:ins[k]?=some x):jR n ins (k+1)=(jR n ins k).set x.toNat ⟨-1,-1,true⟩:=by
 unfold jR;rw[H.kd h,List.foldl_append];rfl
theorem Ol{i:Int}{l:List Lf}{fs:List Int}{k:Nat}{x:Int}(h:fs[k]?=some x):js i l fs (k+1)=rd i (js i l fs k) x:=by
 unfold js;rw[H.kd h,List.foldl_append];rfl
theorem abZ(i:Int)(l:List Lf)(fs:List Int):js i l fs fs.length=fs.foldl (rd i) l:=by unfold js;rw[jm]
theorem ab2{l0:List Lf}{ss:List Sp}{k:Nat}{s:Sp}(h:ss[k]?=some s):stTo l0 ss (k+1)=(js k (stTo l0 ss k) s.bS s.bS.length).set s.to.toNat ⟨k,k,true⟩:=by
 rw[stTo,h]
structure Om(n:Nat)(ss:List Sp)(is us:List Int):Prop where
 ins:∀(k:Nat) x,is[k]?=some x->0<=x/\x<n/\((jR n is k).getD x.toNat no).m=false
 rd:∀(i:Nat) s,ss[i]?=some s->∀(k:Nat) b,s.bS[k]?=some b->-1<=b/\b<n/\(0<=b->((js i (stTo (jR n is is.length) ss i) s.bS k).getD b.toNat no).m=true)
 aoD:∀(i:Nat) s,ss[i]?=some s->∃b∈s.bS,0<=b
 to:∀(i:Nat) s,ss[i]?=some s->0<=s.to/\s.to<n/\((js i (stTo (jR n is is.length) ss i) s.bS s.bS.length).getD s.to.toNat no).m=false
 aK:∀(k:Nat) b,us[k]?=some b->-1<=b/\b<n/\(0<=b->((js ss.length (mid n ss is) us k).getD b.toNat no).m=true)
 all:∀i:Nat,i<n->((uJ n ss is us).getD i no).m=true
def lf(x:H.dE):Lf:=⟨x.f-1,x.t-1,true⟩
def L(r:Nat)(lv:List H.dE):List Lf:=lv.map lf++List.replicate r no
theorem S4{r:Nat}{lv:List H.dE}{b:Nat}(h:b<lv.length):(L r lv).getD b no=lf (lv.getD b H.bQ):=by
 unfold L;rw[List.getD,qT (by simpa using h),dV,List.getD,aS h];rfl
theorem aoE{r:Nat}{lv:List H.dE}{b:Nat}(h:lv.length<=b):(L r lv).getD b no=no:=by
 unfold L;rw[List.getD,og (by simpa using h),ui]
 split<;>rfl
theorem aoF{r:Nat}{d:H.Dr}{k n b:Int}(h0:0<=n)(h1:n<d.aW.length)(hb:d.aW.getD n.toNat 0=b)(hl:b = -1\/(0<=b/\b<d.lv.length)):rd k (L r d.lv) b=L r (H.ig (k+1) d n).lv:=by
 unfold H.ig;rw[ak (by omega),hb];show _=L r (H.D5 d.lv b (k+1));unfold H.D5 rd;rcases hl with rfl|⟨xT,ze⟩
 ·rw[ak (by decide),ak (by omega)]
 ·rw[ay xT,ay ⟨xT,ze⟩,S4 (by omega)]
  unfold L;rw[List.set_append_left _ _ (by simp;omega),List.map_set]
  congr 2
  unfold lf;simp
theorem aoG(k:Int)(d:H.Dr)(n:Int):(H.ig k d n).aW=d.aW:=(H.Na k d n).aW
theorem aoH(k:Int)(d:H.Dr)(n:Int):(H.ig k d n).lv.length=d.lv.length:=(H.Na k d n).len
theorem S5{r:Nat}{k:Int}(g:Int->Int):∀(ns:List Int) (d:H.Dr),(∀n∈ns,0<=n/\n<d.aW.length/\d.aW.getD n.toNat 0=g n/\(g n = -1\/(0<=g n/\g n<d.lv.length)))->(ns.map g).foldl (rd k) (L r d.lv)=L r (ns.foldl (H.ig (k+1)) d).lv
 | [],_,_=>rfl
 |n::ns,d,h=>by
  rw[List.map_cons,List.foldl_cons,List.foldl_cons];obtain⟨h0,h1,h2,h3⟩:=h n pC;rw[aoF h0 h1 h2 h3];refine S5 g ns _ fun n' oU=>?_;rw[aoG,aoH];exact h n' (sZ _ oU)
def fx(m:M.Md)(n:Int):Int:=if n<0\/((H.nL m).aW.length:Int)<=n then -1 else (H.nL m).aW.getD n.toNat 0
def sp(m:M.Md)(o:M.Op):Sp:=⟨o.af,(H.cM o).map (fx m),fx m o.to⟩
def gV(m:M.Md):List Sp:=m.ag.map (sp m)
def ins(m:M.Md):List Int:=(List.range (H.fO m)).map fun i:Nat=>(i:Int)
def aK(m:M.Md):List Int:=m.aK.map (fx m)
theorem ab3(m:M.Md)(k:Nat)(hk:k<=H.fO m)(n:Nat)(hn:H.fO m<=n):jR n (ins m) k=List.replicate k ⟨-1,-1,true⟩++List.replicate (n-k) no:=by
 induction k with
 |zero=>simp[jR]
 |succ k ih=>
  have hx:(ins m)[k]?=some (k:Int):=by unfold ins;rw[dV,List.getElem?_range (by omega)];rfl
  rw[abY hx,ih (by omega),eC,List.set_append_right _ _ (by simp),show n-k=(n-(k+1))+1 by omega,List.replicate_succ,List.replicate_succ'];simp
theorem aoI(m:M.Md):(H.fN m.au m.au.length).lv.map lf=List.replicate (H.fO m) ⟨-1,-1,true⟩:=by
 have D:=H.xF m.au m.au.length (bj _);show _=List.replicate (H.fN m.au m.au.length).lv.length _;generalize H.fN m.au m.au.length=d at *
 apply nM
 intro b;rw[dV,ui];by_cases c:b<d.lv.length
 ·rw[ay c]
  obtain⟨n,t,hn,ht,h0,rfl⟩:=D.l0 b c;have e:=(D.n0 n t hn ht h0).2;rw[List.getD,aS c,Option.getD_some] at e;rw[aS c,e];rfl
 ·rw[ak c,db (by omega)];rfl
theorem On{m:M.Md}{C:List (List Int)}(S:H.dH m C){k:Nat}{d:H.Dr}(D:H.FH m (H.fO m) k d){n:Int}(h0:0<=n)(h1:n<m.au.length)
  (h3:(M.aq m n).af=3->∃(j:Nat) (p:M.Op),j<k/\m.ag[j]?=some p/\p.to=n):d.aW.getD n.toNat 0=fx m n/\(fx m n = -1\/(0<=fx m n/\fx m n<d.lv.length))/\((M.aq m n).af=0\/(M.aq m n).af=3->0<=fx m n):=by
 have P:=H.Az S;have e:fx m n=(H.nL m).aW.getD n.toNat 0:=by unfold fx;rw[ak (by rw[P.ln];omega)]
 have hl:=D.ll;rw[e];by_cases k0:(M.aq m n).af=0
 ·have a:=D.n0 n.toNat _ (O.kP h0 h1).1 k0
  have b:=P.n0 n.toNat _ (O.kP h0 h1).1 k0;refine⟨by rw[a.1,b.1],.inr ⟨by omega,by omega⟩,fun _=>by omega⟩
 ·by_cases k3:(M.aq m n).af=3
  ·obtain⟨j,p,hj,hp,he⟩:=h3 k3
   have a:=(D.n1 j p hj hp).1;have b:=(P.n1 j p hp).1;rw[he] at a b;refine⟨by rw[a,b],.inr ⟨by omega,by omega⟩,fun _=>by omega⟩
  ·have nm:∀(i:Nat) (o:M.Op),m.ag[i]?=some o->o.to≠(n.toNat:Int):=by
    intro i o ho he;have:=(S.to o (bU ho)).2.2;rw[he,uw h0] at this;exact k3 this
   have Fu:(M.aq m (n.toNat:Int)).af≠0:=by rw[uw h0];exact k0
   have a:=D.n2 n.toNat (by omega) Fu fun i o _ ho=>nm i o ho;have b:=P.n2 n.toNat (by omega) Fu nm;exact⟨by rw[a,b],.inl b,fun h=>aN h (by simp[k0,k3])⟩
theorem aoJ{i:Int}{l:List Lf}{b:Int}{j:Nat}:((rd i l b).getD j no).m=(l.getD j no).m:=by
 unfold rd
 split
 ·rw[List.getD,ox]
  by_cases c:b.toNat=j
  ·subst c
   by_cases hl:b.toNat<l.length
   ·rw[ay rfl,ay hl]
    rfl
   ·rw[ay rfl,ak hl,List.getD,db (by omega)]
  ·rw[ak c];rfl
 ·rfl
theorem S6{i:Int}{l:List Lf}{fs:List Int}{j:Nat}:∀k,((js i l fs k).getD j no).m=(l.getD j no).m:=by
 intro k;unfold js;generalize fs.take k=xs
 induction xs generalizing l with
 |nil=>rfl
 |cons x xs ih=>rw[List.foldl_cons,ih,aoJ]
theorem Oo{m:M.Md}{C:List (List Int)}(S:H.dH m C)(N:Nat)(hN:N=H.fO m+m.ag.length):∀k,k<=m.ag.length->stTo (jR N (ins m) (ins m).length) (gV m) k=L (m.ag.length-k) (H.kG m (H.fN m.au m.au.length) k).lv
 |0,_=>by
  have e:=ab3 m (H.fO m) (bj _) N (by omega);have hl:(ins m).length=H.fO m:=by simp[ins]
  show jR N (ins m) (ins m).length=_;rw[hl,e];show _=(H.fN m.au m.au.length).lv.map lf++_;rw[aoI]
  congr 2
  omega
 |k+1,hk=>by
  have ih:=Oo S N hN k (by omega);have D:=H.Cl S (H.xF m.au m.au.length (bj _)).ag k (by omega);have hx:m.ag[k]?=some m.ag[k]:=aS (by omega);generalize m.ag[k]=o at hx;have hs:(gV m)[k]?=some (sp m o):=by unfold gV;rw[dV,hx];rfl
  have e:H.kG m (H.fN m.au m.au.length) (k+1)=H.iZ ((H.cM o).foldl (H.ig ((k:Int)+1)) (H.kG m (H.fN m.au m.au.length) k)) o.to (M.cellsOf (M.aq m o.to)) ((k:Int)+1):=by
   rw[H.kG,hx]
  rw[ab2 hs,ih,e,abZ];generalize H.kG m (H.fN m.au m.au.length) k=d at *;have I0:(H.fN m.au m.au.length).lv.length=H.fO m:=rfl;rw[I0] at D;have R:∀n∈H.cM o,0<=n/\n<d.aW.length/\d.aW.getD n.toNat 0=fx m n/\(fx m n = -1\/(0<=fx m n/\fx m n<d.lv.length)):=by
   intro n hn;obtain⟨n0,n1,n3⟩:=H.Jb S.xC hx hn;have:=On S D n0 n1 n3;exact⟨n0,by rw[D.ln];exact n1,this.1,this.2.1⟩
  show((((H.cM o).map (fx m)).foldl (rd (k:Int)) (L (m.ag.length-k) d.lv)).set (fx m o.to).toNat _)=_;rw[S5 (fx m) _ d R];have E:=H.D7 ((k:Int)+1) (H.cM o) d;have El:=E.len;have En:=E.aW;generalize (H.cM o).foldl (H.ig ((k:Int)+1)) d=d' at *;obtain⟨t0,t1,t3⟩:=S.to o (bU hx);have P:=H.Az S;have eb:fx m o.to=H.fO m+k:=by
   unfold fx;rw[ak (by rw[P.ln];omega)];exact(P.n1 k o hx).1
  have oF:d'.lv.length=H.fO m+k:=by rw[El,D.ll]
  have hln:=D.ln;unfold H.iZ;rw[ak (by rw[En,hln];omega)];show _=(d'.lv++[_]).map lf++List.replicate (m.ag.length-(k+1)) no;rw[eb];unfold L;rw[List.set_append_right _ _ (by simp;omega),show m.ag.length-k=(m.ag.length-(k+1))+1 by omega,List.replicate_succ,lK,j8];have e0:((H.fO m:Int)+(k:Int)).toNat-(d'.lv.map lf).length=0:=by simp;omega
  rw[e0,List.set_cons_zero]
  congr 1
  show _=[lf _]++_;unfold lf;simp
theorem aoK{m:M.Md}{C:List (List Int)}(S:H.dH m C)(hv:∀o∈m.ag,H.wE m o)(N:Nat)(hN:N=H.fO m+m.ag.length):uJ N (gV m) (ins m) (aK m)=(H.nL m).lv.map lf/\Om N (gV m) (ins m) (aK m):=by
 have P:=H.Az S;have hl:(gV m).length=m.ag.length:=by simp[gV]
 have I0:(H.fN m.au m.au.length).lv.length=H.fO m:=rfl;have em:mid N (gV m) (ins m)=L 0 (H.kG m (H.fN m.au m.au.length) m.ag.length).lv:=by
  unfold mid;rw[hl,Oo S N hN m.ag.length (bj _),Nat.sub_self]
 have Da:=H.Cl S (H.xF m.au m.au.length (bj _)).ag m.ag.length (bj _);rw[I0] at Da;have R:∀n∈m.aK,0<=n/\n<(H.kG m (H.fN m.au m.au.length) m.ag.length).aW.length/\(H.kG m (H.fN m.au m.au.length) m.ag.length).aW.getD n.toNat 0=fx m n/\(fx m n = -1\/(0<=fx m n/\fx m n<(H.kG m (H.fN m.au m.au.length) m.ag.length).lv.length)):=by
  intro n hn;obtain⟨⟨a0,a1,a3⟩,-⟩:=S.aK n hn;have:=On S Da a0 a1 (fun k3=>by
   obtain⟨p,hp,he⟩:=List.mem_map.mp (a3 k3);obtain⟨j,hj⟩:=mQ hp;exact⟨j,p,M.bP hj,hj,he⟩)
  exact⟨a0,by rw[Da.ln];exact a1,this.1,this.2.1⟩
 have ef:uJ N (gV m) (ins m) (aK m)=(H.nL m).lv.map lf:=by
  unfold uJ;rw[abZ,em,hl];show(m.aK.map (fx m)).foldl (rd (m.ag.length:Int)) _=_;rw[S5 (fx m) _ _ R];unfold L;simp[H.nL]
 have yW:(H.nL m).lv.length=N:=by rw[P.ll,hN]
 refine⟨ef,⟨fun k x hx=>?_,fun i s hs k b hb=>?_,fun i s hs=>?_,fun i s hs=>?_,fun k b hb=>?_,fun i hi=>?_⟩⟩
 ·unfold ins at hx
  rw[dV] at hx;obtain⟨y,hy,rfl⟩:=Option.map_eq_some_iff.mp hx;have F6:=M.bP hy;rw[List.length_range] at F6;rw[List.getElem?_range F6] at hy;injection hy with hy;subst hy;refine⟨by omega,by omega,?_⟩;rw[ab3 m k (by omega) N (by omega),eC,List.getD,og (by simp),ui]
  split<;>rfl
 ·unfold gV at hs
  rw[dV] at hs;obtain⟨o,ho,rfl⟩:=Option.map_eq_some_iff.mp hs;have hi:=M.bP ho;have D:=H.Cl S (H.xF m.au m.au.length (bj _)).ag i (by omega);rw[I0] at D;have oz:((H.cM o).map (fx m))[k]?=some b:=hb;rw[dV] at oz;obtain⟨n,hn,rfl⟩:=Option.map_eq_some_iff.mp oz;obtain⟨n0,n1,n3⟩:=H.Jb S.xC ho (bU hn);obtain⟨-,a,-⟩:=On S D n0 n1 n3;have hDl:=D.ll;refine⟨by omega,by omega,fun h0=>?_⟩;rw[S6,Oo S N hN i (by omega),S4 (by omega)]
  rfl
 ·unfold gV at hs
  rw[dV] at hs;obtain⟨o,ho,rfl⟩:=Option.map_eq_some_iff.mp hs;have hi:=M.bP ho;have D:=H.Cl S (H.xF m.au m.au.length (bj _)).ag i (by omega);rw[I0] at D;obtain⟨n,hn,hk⟩:=hv o (bU ho);obtain⟨n0,n1,n3⟩:=H.Jb S.xC ho hn;obtain⟨-,-,a⟩:=On S D n0 n1 n3;exact⟨fx m n,List.mem_map_of_mem hn,a hk⟩
 ·unfold gV at hs
  rw[dV] at hs;obtain⟨o,ho,rfl⟩:=Option.map_eq_some_iff.mp hs;have hi:=M.bP ho;have D:=H.Cl S (H.xF m.au m.au.length (bj _)).ag i (by omega);rw[I0] at D;obtain⟨t0,t1,t3⟩:=S.to o (bU ho);have eb:fx m o.to=H.fO m+i:=by
   unfold fx;rw[ak (by rw[P.ln];omega)];exact(P.n1 i o ho).1
  have hDl:=D.ll;show 0<=fx m o.to/\fx m o.to<N/\((js _ _ _ _).getD (fx m o.to).toNat no).m=false;refine⟨by omega,by omega,?_⟩;rw[S6,Oo S N hN i (by omega),aoE (by omega)]
  rfl
 ·have oz:(m.aK.map (fx m))[k]?=some b:=hb
  rw[dV] at oz;obtain⟨n,hn,rfl⟩:=Option.map_eq_some_iff.mp oz;obtain⟨-,-,-,a⟩:=R n (bU hn);have hDl:=Da.ll;refine⟨by omega,by omega,fun h0=>?_⟩;rw[S6,em,S4 (by omega)]
  rfl
 ·rw[ef,List.getD,dV,aS (by omega)]
  rfl
end T
end Go.Proofs.YtcnhfffgbamonaaGreat
